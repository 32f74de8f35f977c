import random
import unittest
from fractions import Fraction
from itertools import combinations, permutations

from likelybook.books import Book
from likelybook.errors import InvalidCases, InvalidOdds, InvalidOrder, TooMany
from likelybook.fitting import odds as odds_fitting
from likelybook.orders import count_plain, giving, is_order, is_plain, order, sayings_of
from tests import oracle
from tests.support import (
    LETTERS,
    WRONG_CASES,
    WRONG_LOTS,
    EqualToAll,
    Raising,
    are_odds,
    holds,
    lot_odds,
    lots,
    nested,
    odd_values,
    pair,
    some_odds,
)

THIRDS = ((1, 3), (1, 3), (1, 3))
FLAT = (("",), ("a", "b"), ("ab",))
UP = (("",), ("a",), ("b",), ("ab",))
# Lots that stand so in no odds: both sides of all four together have the same cases.
AGAINST = (("d", "ac"), ("bc", "ad"), ("ae", "cd"), ("acd", "be"))


def order_by(cases, worth):
    """The order of all lots by any worth of each lot."""
    groups = {}
    for lot in sorted(lots(cases)):
        groups.setdefault(worth(lot), []).append(lot)
    return tuple([tuple(groups[value]) for value in sorted(groups)])


def order_of(cases, told):
    """The order that odds give, said a second time."""
    return order_by(cases, lambda lot: lot_odds(cases, told, lot))


def plain_order(cases="abcde", turned=()):
    """A plain order in which all pairs of AGAINST, but for those turned, stand as there.

    These weights make just the two lots of each pair, and what has the same cases more, alike;
    each pair is then told apart. If none is turned no odds give this order.
    """
    weights = {"a": 1000, "b": 2000, "c": 1201, "d": 2201, "e": 2402, "f": 30000}
    standing = [two[::-1] if two in turned else two for two in AGAINST]
    row = []
    for group in order_by(cases, lambda lot: sum([weights[case] for case in lot])):
        if len(group) == 2:
            apart = tuple(["".join(sorted(set(lot) - set(group[1 - at]))) for at, lot in enumerate(group)])
            row += [(lot,) for lot in (group if apart in standing else group[::-1])]
        else:
            row.append(tuple(group))
    return tuple(row)


def plain_by_the_words(cases, told):
    """Whether an order is plain, by the words of the document."""
    places = {frozenset(lot): place for place, group in enumerate(told) for lot in group}
    if places[frozenset()] != 0 or places[frozenset(cases)] == 0:
        return False
    for one in places:
        for other in places:
            for more in places:
                if not more & (one | other):
                    lead = places[one] - places[other]
                    joined = places[one | more] - places[other | more]
                    if (lead > 0, lead < 0) != (joined > 0, joined < 0):
                        return False
    return True


def shuffled(rng, told):
    """An order of which some lots have changed places or groups."""
    groups = [list(group) for group in told]
    for _ in range(rng.randint(1, 3)):
        moved = groups.pop(rng.randrange(len(groups)))
        turn = rng.randrange(3)
        if turn == 0 or not groups:
            groups.insert(rng.randrange(len(groups) + 1), moved)
        elif turn == 1:
            groups[rng.randrange(len(groups))] += moved
        else:
            at = rng.randrange(len(moved))
            groups.insert(rng.randrange(len(groups) + 1), moved[:at] + moved[at + 1:])
            groups.insert(rng.randrange(len(groups) + 1), [moved[at]])
        groups = [group for group in groups if group]
    return tuple([tuple(sorted(group)) for group in groups])


def some_orders(seed, many, sizes=(2, 3, 4, 5, 6)):
    """Pairs: cases, and an order of them; about each second one is given by some odds."""
    rng = random.Random(seed)
    told = []
    for turn in range(many):
        cases = "".join(sorted(rng.sample(LETTERS, sizes[turn % len(sizes)])))
        given = order_of(cases, some_odds(rng, len(cases)))
        told.append((cases, given if rng.random() < 0.5 else shuffled(rng, given)))
    return told


class Ordering(unittest.TestCase):
    def test_some_odds(self):
        self.assertEqual(order("abc", THIRDS), (("",), ("a", "b", "c"), ("ab", "ac", "bc"), ("abc",)))
        self.assertEqual(order(odds=((0, 1), (1, 1)), cases="xy"), (("", "x"), ("xy", "y")))
        told = order("abc", ((1, 2), (1, 3), (1, 6)))
        self.assertEqual(told, (("",), ("c",), ("b",), ("a", "bc"), ("ac",), ("ab",), ("abc",)))
        self.assertEqual(order("abc", ((0, 1), (0, 1), (1, 1))), (("", "a", "ab", "b"), ("abc", "ac", "bc", "c")))

    def test_against_the_words(self):
        rng = random.Random(31)
        for _ in range(200):
            cases = "".join(sorted(rng.sample(LETTERS, rng.randint(2, 6))))
            told = some_odds(rng, len(cases))
            found = order(cases, told)
            self.assertEqual(found, order_of(cases, told))
            self.assertIs(is_order(cases, found), True)
            self.assertIs(is_plain(cases, found), True)

    def test_odds_that_are_hardly_apart(self):
        great = 10 ** 39
        told = order("ab", ((great // 2 - 1, great - 1), (great // 2, great - 1)))
        self.assertEqual(told, UP)
        near = ((1, 3), pair(Fraction(1, 3) + Fraction(1, 10 ** 39)), pair(Fraction(1, 3) - Fraction(1, 10 ** 39)))
        self.assertEqual(order("abc", near)[:4], (("",), ("c",), ("a",), ("b",)))


class BeingAnOrder(unittest.TestCase):
    def check(self, wanted, cases, *values):
        for value in values:
            with self.subTest(value):
                self.assertIs(is_order(cases, value), wanted)
                self.assertIs(is_order(value=value, cases=cases), wanted)
                if not wanted:
                    self.assertIs(is_plain(cases, value), False)
                    self.assertIs(is_plain(value=value, cases=cases), False)

    def test_any_order_of_groups_is_one(self):
        self.check(True, "ab", FLAT, UP, UP[::-1], FLAT[::-1], (("", "a", "ab", "b"),))
        self.check(True, "ab", *permutations(UP))
        self.check(True, "ab", (("ab", "b"), ("", "a")), (("a",), ("", "ab", "b")))

    def test_groups_that_are_not_ascending(self):
        self.check(False, "ab", (("",), ("b", "a"), ("ab",)), (("b", "ab", "a", ""),), (("a", "b", "ab", ""),))
        # By their lengths these would stand in order.
        self.check(False, "ab", (("", "a", "b", "ab"),), ((), ("a", "b"), ("ab",)))

    def test_lots_twice_and_left_out(self):
        self.check(False, "ab", (), ((),), (("",),), UP[:3], UP[1:], UP + (("ab",),), UP + UP, (("",),) + UP)
        self.check(False, "ab", (("",), ("a", "a", "b"), ("ab",)), (("", "a"), ("a", "b"), ("ab",)))
        self.check(False, "ab", (("",), ("a",), ("a",), ("ab",)), (("",), ("a",), ("b",), ("b",)))
        self.check(False, "ab", (("",), ("",), ("a", "b"), ("ab",)))

    def test_empty_groups(self):
        self.check(False, "ab", UP + ((),), ((),) + UP, FLAT[:1] + ((),) + FLAT[1:], ((), (), (), ()))

    def test_lots_of_other_cases(self):
        self.check(False, "ab", (("",), ("a",), ("c",), ("ac",)), (("",), ("a",), ("b",), ("ba",)))
        self.check(False, "ab", (("",), ("a",), ("b",), ("ab",), ("c",)), (("-",), ("a",), ("b",), ("ab",)))
        self.check(False, "abc", UP, FLAT)
        self.check(False, "ab", order("abc", THIRDS))

    def test_other_kinds(self):
        self.check(False, "ab", list(UP), [list(group) for group in UP], tuple([list(group) for group in UP]))
        self.check(False, "ab", ("", "a", "b", "ab"), ("", ("a",), ("b",), ("ab",)), "ab", ("ab",), (("",), "ab"))
        self.check(False, "ab", (UP,), ((UP,),), {"": 0}, {UP: UP}, frozenset(UP), iter(UP), nested(9))
        self.check(False, "ab", *odd_values())
        for value in odd_values() + WRONG_LOTS:
            self.check(False, "ab", (("",), ("a",), ("b",), ("ab", value)), (("",), ("a",), ("b",), (value,)))
            self.check(False, "ab", ((value,), ("",), ("a",), ("b",), ("ab",)), (("",), (value, "a"), ("b",), ("ab",)))
            if value != ("a",) or isinstance(value, EqualToAll):
                self.check(False, "ab", (("",), value, ("b",), ("ab",)), (value,) + UP, UP + (value,))

    def test_against_some_orders(self):
        for cases, told in some_orders(32, 100):
            self.check(True, cases, told)
            self.check(False, cases, told[1:], told[:-1], told + told[:1], told + ((),))


class BeingPlain(unittest.TestCase):
    def check(self, wanted, cases, *values):
        for value in values:
            with self.subTest(value):
                self.assertIs(is_order(cases, value), True)
                self.assertIs(is_plain(cases, value), wanted)
                self.assertIs(is_plain(value=value, cases=cases), wanted)

    def test_each_order_of_single_lots_of_two_cases(self):
        plain = [told for told in permutations(UP) if is_plain("ab", told)]
        self.assertEqual(plain, [UP, (("",), ("b",), ("a",), ("ab",))])

    def test_the_first_group(self):
        self.check(True, "ab", (("", "a"), ("ab", "b")))
        self.check(False, "ab", (("", "a", "ab", "b"),), (("a",), ("", "ab"), ("b",)), (("ab", "b"), ("", "a")))
        self.check(False, "ab", UP[::-1], FLAT[::-1])

    def test_lots_join_others(self):
        self.check(False, "ab", (("", "a"), ("b",), ("ab",)), (("",), ("a",), ("ab", "b")))
        self.check(False, "abc", (("",), ("a",), ("b",), ("c",), ("ab",), ("bc",), ("ac",), ("abc",)))
        self.check(True, "abc", (("",), ("a",), ("b",), ("c",), ("ab",), ("ac",), ("bc",), ("abc",)))
        self.check(True, "abc", (("",), ("a",), ("b",), ("ab",), ("c",), ("ac",), ("bc",), ("abc",)))
        self.check(True, "abc", (("",), ("a",), ("b",), ("ab", "c"), ("ac",), ("bc",), ("abc",)))
        self.check(False, "abc", (("",), ("a",), ("b",), ("c",), ("ab",), ("ac", "bc"), ("abc",)))
        # Two cases join what one of them alone does not touch.
        self.check(False, "abcd", order_by("abcd", lambda lot: (len(lot), lot in ("ab", "cd"), lot)))

    def test_orders_that_odds_give(self):
        rng = random.Random(33)
        for size in (2, 3, 4, 5, 6):
            for _ in range(20):
                cases = "".join(sorted(rng.sample(LETTERS, size)))
                self.check(True, cases, order_of(cases, some_odds(rng, size)))

    def test_against_the_words(self):
        seen = {}
        for cases, told in some_orders(34, 300, (2, 3, 4)) + some_orders(35, 8, (5,)):
            wanted = plain_by_the_words(cases, told)
            self.check(wanted, cases, told)
            seen[len(cases), wanted] = seen.get((len(cases), wanted), 0) + 1
        self.assertTrue({(size, wanted) for size in (2, 3, 4) for wanted in (True, False)} <= set(seen))
        self.assertGreater(min(seen[size, False] for size in (2, 3, 4)), 10)

    def test_each_order_of_single_lots_of_three_cases(self):
        found = 0
        for told in permutations([(lot,) for lot in lots("abc")][1:]):
            wanted = plain_by_the_words("abc", (("",),) + told)
            self.assertIs(is_plain("abc", (("",),) + told), wanted)
            found += wanted
        self.assertEqual(found, 12)

    def test_plain_though_no_odds_give_it(self):
        self.check(True, "abcde", plain_order())
        self.assertTrue(plain_by_the_words("abcde", plain_order()))
        self.check(True, "abcdef", plain_order("abcdef"))


class Giving(unittest.TestCase):
    def check(self, cases, told):
        """What is told of an order is right; whether odds give it."""
        found = giving(cases, told)
        self.check_sayings(cases, told)
        if found is None:
            self.assertFalse(oracle.some_fit(cases, sayings_of(cases, told)))
        else:
            self.assertTrue(are_odds(cases, found))
            self.assertEqual(order_of(cases, found), told)
            self.assertEqual(order(cases, found), told)
        return found is not None

    def check_sayings(self, cases, told):
        """The sayings of an order want no more and no less than it does."""
        sayings = sayings_of(cases, told)
        self.assertIs(type(sayings), tuple)
        self.assertLessEqual({saying[0] for saying in sayings}, {"more", "same"})
        for saying in sayings:
            self.assertEqual(Book(cases, (saying,)).sayings, (saying,))
        # Any worth of lots that keeps the sayings keeps the order: so they tell each lot's place.
        places = {lot: place for place, group in enumerate(told) for lot in group}
        for word, left, right in sayings:
            if word == "same":
                self.assertEqual(places[left], places[right])
            else:
                self.assertGreater(places[left], places[right])

    def test_orders_that_odds_give(self):
        rng = random.Random(36)
        for size in (2, 3, 4, 5, 6):
            for _ in range(12):
                cases = "".join(sorted(rng.sample(LETTERS, size)))
                self.assertTrue(self.check(cases, order_of(cases, some_odds(rng, size))))

    def test_orders_of_all_kinds(self):
        seen = {}
        for cases, told in some_orders(37, 150):
            key = (len(cases), self.check(cases, told))
            seen[key] = seen.get(key, 0) + 1
        self.assertEqual(len(seen), 10)

    def test_all_lots_in_one_group(self):
        for cases in ("ab", "abcde", "abcdef"):
            self.assertFalse(self.check(cases, (tuple(sorted(lots(cases))),)))

    def test_all_lots_alone(self):
        row = tuple([(lot,) for lot in sorted(lots("abcdef"), key=lambda lot: [case in lot for case in "fedcba"])])
        self.assertTrue(self.check("abcdef", row))
        self.assertFalse(self.check("abcdef", row[:20] + row[21:22] + row[20:21] + row[22:]))
        self.assertFalse(self.check("abcdef", row[::-1]))

    def test_plain_orders_that_no_odds_give(self):
        for cases in ("abcde", "abcdef"):
            self.assertFalse(self.check(cases, plain_order(cases)))
            self.assertFalse(self.check(cases, plain_order(cases, AGAINST)))
            # If not all four pairs are alike some odds give it.
            for size in (1, 2, 3):
                for turned in combinations(AGAINST, size):
                    self.assertTrue(is_plain(cases, plain_order(cases, turned)))
                    self.assertTrue(self.check(cases, plain_order(cases, turned)))

    def test_each_plain_order_of_up_to_four_cases_has_odds(self):
        for told in permutations([(lot,) for lot in lots("abc")][1:]):
            told = (("",),) + told
            self.assertIs(giving("abc", told) is not None, is_plain("abc", told))

    def test_by_name(self):
        self.assertEqual(giving(order=FLAT, cases="ab"), ((1, 2), (1, 2)))
        self.assertEqual(sayings_of(order=FLAT, cases="ab"), sayings_of("ab", FLAT))

    def test_sayings_hold_in_just_the_odds_that_give_the_order(self):
        rng = random.Random(38)
        held = {True: 0, False: 0}
        for _ in range(400):
            cases = "abcdef"[:rng.randint(2, 6)]
            told = order_of(cases, some_odds(rng, len(cases)))
            others = some_odds(rng, len(cases))
            for tried in (others, giving(cases, told)):
                does = all([holds(cases, saying, tried) for saying in sayings_of(cases, told)])
                self.assertIs(does, order_of(cases, tried) == told)
                held[does] += 1
        self.assertGreater(min(held.values()), 100)


class Counting(Raising):
    def test_two_three_and_four_cases(self):
        for cases in ("ab", "xz"):
            self.assertEqual(count_plain(cases), 2)
        for cases in ("abc", "hmz"):
            self.assertEqual(count_plain(cases=cases), 12)
        for cases in ("abcd", "wxyz"):
            self.assertEqual(count_plain(cases), 336)

    def test_too_many(self):
        for cases in ("abcde", "vwxyz", "abcdef"):
            self.raised(TooMany, 4, count_plain, cases)
            self.raised(TooMany, 4, count_plain, cases=cases)

    def test_wrong_cases(self):
        for cases in WRONG_CASES + odd_values():
            self.raised(InvalidCases, cases, count_plain, cases)
            self.raised(InvalidCases, cases, count_plain, cases=cases)


class Errors(Raising):
    def test_wrong_cases_ahead_of_all_else(self):
        for cases in WRONG_CASES + odd_values():
            with self.subTest(cases):
                self.raised(InvalidCases, cases, order, cases, None)
                self.raised(InvalidCases, cases, order, odds=((1, 2), (1, 2)), cases=cases)
                for function in (is_order, is_plain):
                    self.raised(InvalidCases, cases, function, cases, None)
                    self.raised(InvalidCases, cases, function, value=FLAT, cases=cases)
                for function in (giving, sayings_of):
                    self.raised(InvalidCases, cases, function, cases, None)
                    self.raised(InvalidCases, cases, function, order=FLAT, cases=cases)

    def check_odds(self, index, value):
        with self.subTest(value):
            self.raised(InvalidOdds, index, order, "abc", value)
            self.raised(InvalidOdds, index, order, odds=value, cases="abc")

    def test_wrong_odds(self):
        for value in odd_values() + [list(THIRDS), "abc", {0: (1, 1)}]:
            if not isinstance(value, tuple):
                self.check_odds(None, value)
            self.check_odds(0, (value, (1, 3), (1, 3)))
            self.check_odds(1, ((1, 3), value))
            self.check_odds(2, ((1, 3), (1, 3), value, (1, 3)))
            self.check_odds(3, THIRDS + (value,))
        self.check_odds(3, THIRDS + ((0, 1),))
        self.check_odds(3, THIRDS + ((0, 1), None))
        self.check_odds(0, ((-1, 3), (1, 3), (1, 1)))
        self.check_odds(1, ((1, 3), (2, 6), (1, 3)))
        self.check_odds(2, ((1, 3), (1, 3), (True, 3)))
        for value in ((), ((1, 1),), ((1, 2), (1, 2)), ((1, 2), (1, 2), (1, 2)), ((0, 1), (0, 1), (0, 1))):
            self.check_odds(None, value)

    def test_wrong_orders(self):
        wrong = odd_values() + [
            list(UP), UP[1:], UP + UP, (("",), ("b", "a"), ("ab",)), UP + ((),), (("", "a", "b", "ab"),),
            ("", "a", "b"), order("abc", THIRDS), tuple([list(group) for group in UP]),
            (("",), ("a",), ("b",), (EqualToAll(),)),
        ]
        for value in wrong:
            with self.subTest(value):
                for function in (giving, sayings_of):
                    self.raised(InvalidOrder, value, function, "ab", value)
                    self.raised(InvalidOrder, value, function, order=value, cases="ab")


class Interface(unittest.TestCase):
    def test_each_function_is_defined_in_its_file(self):
        for function in (order, is_order, is_plain, giving, sayings_of, count_plain):
            self.assertEqual(function.__module__, "likelybook.orders")

    def test_calls_with_equal_arguments_tell_equal_things(self):
        for cases, told in some_orders(39, 30):
            again = tuple([tuple(list(group)) for group in told])
            self.assertEqual(giving(cases, told), giving(cases, again))
            self.assertEqual(sayings_of(cases, told), sayings_of(cases, again))
            self.assertEqual(told, again)

    def test_odds_of_books_may_be_given(self):
        for left, right in combinations(lots("abc")[1:], 2):
            told = odds_fitting(Book("abc", (("least", left, right),)))
            self.assertTrue(is_plain("abc", order("abc", told)))


if __name__ == "__main__":
    unittest.main()
