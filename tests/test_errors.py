import unittest

from likelybook import errors
from tests.support import odd_values

BASES = {"BadValue": ValueError, "BadName": LookupError, "NoAnswer": ArithmeticError}
CLASSES = {
    "InvalidText": ("BadValue", ("given",)),
    "InvalidCases": ("BadValue", ("given",)),
    "InvalidLot": ("BadValue", ("given",)),
    "InvalidSaying": ("BadValue", ("given",)),
    "InvalidNumber": ("BadValue", ("given",)),
    "InvalidOrder": ("BadValue", ("given",)),
    "InvalidName": ("BadValue", ("given",)),
    "InvalidIndex": ("BadValue", ("given",)),
    "InvalidClaim": ("BadValue", ("given",)),
    "InvalidCommand": ("BadValue", ("given",)),
    "NotABook": ("BadValue", ("given",)),
    "InvalidSayings": ("BadValue", ("index",)),
    "InvalidOdds": ("BadValue", ("index",)),
    "UnknownName": ("BadName", ("given",)),
    "InUse": ("BadName", ("index",)),
    "NoOdds": ("NoAnswer", ("balance",)),
    "TooMany": ("NoAnswer", ("limit",)),
    "NothingToUndo": ("NoAnswer", ()),
    "Broken": ("NoAnswer", ("index", "shown")),
}


def own_classes():
    return {name for name, value in vars(errors).items() if isinstance(value, type)}


class Unshowable:
    def __repr__(self):
        raise RuntimeError

    __str__ = __repr__


class Errors(unittest.TestCase):
    def test_these_classes_and_no_others(self):
        self.assertEqual(own_classes(), {*BASES, *CLASSES})
        for name in own_classes():
            self.assertEqual(getattr(errors, name).__module__, "likelybook.errors")

    def test_bases_stand_under_pythons_own(self):
        for name, python in BASES.items():
            with self.subTest(name):
                self.assertEqual(getattr(errors, name).__bases__, (python,))

    def test_each_stands_under_its_base_alone(self):
        for name, (base, names) in CLASSES.items():
            with self.subTest(name):
                error = getattr(errors, name)(*[0 for _ in names])
                under = {own for own in own_classes() if isinstance(error, getattr(errors, own))}
                self.assertEqual(under, {name, base})
                self.assertIsInstance(error, BASES[base])
                python = {other for other in BASES.values() if isinstance(error, other)}
                self.assertEqual(python, {BASES[base]})

    def test_attributes_by_place_and_by_name(self):
        for name, (_, names) in CLASSES.items():
            made = getattr(errors, name)
            for value in [*odd_values(), Unshowable()]:
                values = [value, "behind"][:len(names)]
                for error in (made(*values), made(**dict(zip(names, values)))):
                    with self.subTest(name):
                        for attribute, wanted in zip(names, values):
                            self.assertIs(getattr(error, attribute), wanted)
                        self.assertIsInstance(str(error), str)

    def test_they_want_just_their_attributes(self):
        for name, (_, names) in CLASSES.items():
            made = getattr(errors, name)
            with self.subTest(name):
                with self.assertRaises(TypeError):
                    made(*[0 for _ in names], 0)
                if names:
                    with self.assertRaises(TypeError):
                        made()

    def test_each_is_caught_by_its_base(self):
        for name, (base, names) in CLASSES.items():
            for catching in (name, base):
                with self.subTest(name, catching=catching):
                    try:
                        raise getattr(errors, name)(*[0 for _ in names])
                    except getattr(errors, catching) as error:
                        self.assertIs(type(error), getattr(errors, name))

    def test_they_are_true_and_equal_to_themselves_alone(self):
        for name, (_, names) in CLASSES.items():
            error, other = [getattr(errors, name)(*[0 for _ in names]) for _ in range(2)]
            self.assertTrue(error)
            self.assertTrue(error == error)
            self.assertFalse(error == other)
            self.assertTrue(error != other)

    def test_bases_are_made_without_attributes(self):
        for name in BASES:
            with self.subTest(name):
                self.assertIsInstance(getattr(errors, name)(), getattr(errors, name))


if __name__ == "__main__":
    unittest.main()
