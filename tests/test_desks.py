import random
import unittest

from likelybook.books import Book
from likelybook.desks import Desk
from likelybook.errors import (
    InUse,
    InvalidClaim,
    InvalidIndex,
    InvalidName,
    InvalidSaying,
    NotABook,
    NothingToUndo,
    TooMany,
    UnknownName,
)
from tests import oracle
from tests.support import (
    LETTERS,
    EqualToAll,
    Raising,
    all_of,
    balances,
    lots,
    odd_values,
    pair,
    some_books,
    some_saying,
    wrong_sayings,
)

RAIN = Book("abc", (("more", "a", "bc"),))
BAD = RAIN.with_saying(("least", "b", "a"))
TWO = Book.read("cases ab\ntimes a b 3\nmore b -")
EMPTY = Book("abc")
WRONG_NAMES = ["abcdefghi", "A", "aB", "a ", " a", "a b", "a1", "1", "-", "a-b", "a\n", "\na", "a_b", "`", "{", "abc."]
WRONG_NAMES += [value for value in odd_values() if not (isinstance(value, str) and value == "cases")]


def full_book():
    """A book of twelve sayings."""
    return Book("abc", (("least", "a", "b"),) * 12)


def some_desk():
    """A desk with three books and four claims, and with seven changes."""
    desk = Desk()
    desk["rain"] = RAIN
    desk["two"] = TWO
    desk["bad"] = BAD
    desk.claim(("agrees", "rain"))
    desk.claim(("sure", "two", "more", "a", "b"))
    desk.claim(("from", "rain", "a", (1, 2)))
    desk.claim(("sure", "bad", "more", "c", "abc"))
    return desk


def wrong_claims():
    """Values that are no claim of a desk, whatever the names are."""
    wrong = list(odd_values())
    wrong += [("agrees",), ("agrees", "rain", "a"), ("agrees", "rain", None), ["agrees", "rain"], "agrees rain"]
    for word in ("agree", "Agrees", "agrees ", "", "odds", "none", "order", "more", None, 1, b"agrees", ("agrees",)):
        wrong += [(word, "rain"), (word, "rain", "more", "a", "b"), (word, "rain", "a", (1, 2))]
    wrong += [(EqualToAll(), "rain"), (EqualToAll(), "rain", "more", "a", "b"), (EqualToAll(), "rain", "a", (1, 2))]
    wrong += [("sure", "rain"), ("sure",), ("sure", "rain", "more"), ("sure", "rain", "more", "a")]
    wrong += [("sure", "rain", "more", "a", "b", "c"), ["sure", "rain", "more", "a", "b"]]
    wrong += [("sure", "rain", "a", (1, 2)), ("sure", "more", "rain", "a", "b")]
    wrong += [("from", "rain"), ("from", "rain", "a"), ("from", "rain", "a", (1, 2), 0), ["from", "rain", "a", (1, 2)]]
    wrong += [("from", "rain", "more", "a", "b"), ("from", "rain", (1, 2), "a"), ("from", "rain", "a", 1, 2)]
    wrong += [("agrees", "rain", "more", "a", "b"), ("agrees", "rain", "a", (1, 2))]
    for word in ("less", "most", "open", "times", "More", "", " more", None, 0, b"more", ("more",), EqualToAll()):
        wrong.append(("sure", "rain", word, "a", "b"))
    for lot in ("ba", "aa", "A", "-", " ", "a ", "a1", "acb", None, 0, b"a", ("a",), ["a"], EqualToAll()):
        wrong += [("sure", "rain", "more", lot, "b"), ("sure", "rain", "same", "a", lot), ("from", "rain", lot, (1, 2))]
    for part in [(-1, 1), (-1, 2), (3, 2), (2, 1), (2, 4), (0, 2), (1, 0), (0, 0), (0, -1), (1, -2), (-1, -2), (2, 2)]:
        wrong.append(("from", "rain", "a", part))
    for part in [(True, 1), (1, True), (False, 1), (1,), (1, 2, 3), (), [1, 2], ("1", "2"), "1/2", "12", 1, 0, None]:
        wrong.append(("from", "rain", "a", part))
    for part in ((None, 1), (1, None), ((1,), 2), (EqualToAll(), 1), (1, EqualToAll()), EqualToAll()):
        wrong.append(("from", "rain", "a", part))
    return wrong


class Books(Raising):
    def test_an_empty_desk(self):
        desk = Desk()
        self.assertEqual((desk.titles, desk.claims, desk.changes, len(desk)), ((), (), 0, 0))
        self.assertIs(bool(desk), True)

    def test_books_are_put_and_told(self):
        desk = Desk()
        desk["sky"] = RAIN
        self.assertIs(desk["sky"], RAIN)
        desk["a"] = TWO
        desk["z"] = RAIN
        desk["abcdefgh"] = EMPTY
        self.assertEqual(desk.titles, ("a", "abcdefgh", "sky", "z"))
        self.assertIs(type(desk.titles), tuple)
        self.assertEqual((len(desk), desk.changes), (4, 4))
        self.assertIs(desk["a"], TWO)
        self.assertIs(desk["z"], RAIN)
        self.assertIs(bool(desk), True)

    def test_a_book_in_the_place_of_another_one(self):
        desk = Desk()
        desk["sky"] = RAIN
        desk["sky"] = TWO
        self.assertIs(desk["sky"], TWO)
        self.assertEqual((desk.titles, len(desk), desk.changes), (("sky",), 1, 2))
        desk["sky"] = TWO
        self.assertEqual((desk.titles, len(desk), desk.changes), (("sky",), 1, 3))

    def test_a_book_that_no_odds_fit_may_be_put(self):
        desk = Desk()
        desk["bad"] = BAD
        self.assertIs(desk["bad"], BAD)

    def test_wrong_names(self):
        desk = some_desk()
        for name in WRONG_NAMES:
            for book in (RAIN, None):
                with self.subTest(repr(name)), self.unchanged(desk):
                    self.raised(InvalidName, name, desk.__setitem__, name, book)

    def test_wrong_books(self):
        desk = some_desk()
        for book in [value for value in odd_values()] + [RAIN.text, Book, ("abc", ())]:
            for name in ("rain", "new"):
                with self.subTest(repr(book)), self.unchanged(desk):
                    self.raised(NotABook, book, desk.__setitem__, name, book)

    def test_names_that_are_none(self):
        desk = some_desk()
        for name in WRONG_NAMES + ["sky", "rai", "rainy", "Rain", ("rain",), ["rain"], b"rain", RAIN]:
            with self.subTest(repr(name)), self.unchanged(desk):
                self.raised(UnknownName, name, desk.__getitem__, name)
                self.raised(UnknownName, name, desk.remove, name)
                self.raised(UnknownName, name, desk.remove, name=name)
                for saying in (("more", "a", "b"), None):
                    self.raised(UnknownName, name, desk.say, name, saying)
                    self.raised(UnknownName, name, desk.say, saying=saying, name=name)
        self.raised(UnknownName, "sky", Desk().remove, "sky")

    def test_removing(self):
        desk = Desk()
        desk["sky"] = RAIN
        desk["sea"] = TWO
        self.assertIsNone(desk.remove("sky"))
        self.assertEqual((desk.titles, len(desk), desk.changes), (("sea",), 1, 3))
        self.raised(UnknownName, "sky", desk.remove, "sky")
        self.raised(UnknownName, "sky", desk.__getitem__, "sky")
        self.assertIsNone(desk.remove(name="sea"))
        self.assertEqual((desk.titles, len(desk), desk.changes), ((), 0, 4))

    def test_what_is_in_use_is_not_removed(self):
        desk = some_desk()
        for name, index in (("rain", 0), ("two", 1), ("bad", 3)):
            with self.unchanged(desk):
                self.raised(InUse, index, desk.remove, name)
                self.raised(InUse, index, desk.remove, name=name)
        desk.lift(0)
        self.raised(InUse, 1, desk.remove, "rain")
        desk.lift(1)
        self.assertIsNone(desk.remove("rain"))
        self.assertEqual(desk.titles, ("bad", "two"))

    def test_a_name_alone_is_in_use_not_its_beginning(self):
        desk = Desk()
        desk["a"] = desk["ab"] = RAIN
        desk.claim(("sure", "ab", "more", "a", "b"))
        self.assertIsNone(desk.remove("a"))
        self.raised(InUse, 0, desk.remove, "ab")

    def test_saying(self):
        desk = Desk()
        desk["sky"] = RAIN
        desk["sea"] = RAIN
        self.assertIsNone(desk.say("sky", ("more", "b", "c")))
        self.assertEqual(desk["sky"], RAIN.with_saying(("more", "b", "c")))
        self.assertIs(desk["sea"], RAIN)
        self.assertEqual(RAIN.text, "cases abc\nmore a bc")
        self.assertIsNone(desk.say(saying=("times", "b", "c", 2), name="sky"))
        self.assertEqual(desk["sky"].text, "cases abc\nmore a bc\nmore b c\ntimes b c 2")
        self.assertEqual(desk.changes, 4)

    def test_wrong_sayings(self):
        desk = some_desk()
        desk["full"] = full_book()
        for saying in wrong_sayings():
            with self.subTest(repr(saying)), self.unchanged(desk):
                self.raised(InvalidSaying, saying, desk.say, "rain", saying)
                self.raised(InvalidSaying, saying, desk.say, saying=saying, name="full")
        with self.unchanged(desk):
            self.raised(TooMany, 12, desk.say, "full", ("more", "a", "b"))
        self.raised(InvalidSaying, ("more", "a", "d"), desk.say, "full", ("more", "a", "d"))

    def test_errors_of_sayings_come_ahead_of_broken(self):
        desk = Desk()
        desk["full"] = full_book()
        desk.claim(("agrees", "full"))
        with self.unchanged(desk):
            self.raised(TooMany, 12, desk.say, "full", ("more", "b", "a"))
            self.raised(InvalidSaying, ("more", "b", "d"), desk.say, "full", ("more", "b", "d"))
        desk["full"] = full_book().without(0)
        with self.unchanged(desk):
            told = full_book().without(0).with_saying(("more", "b", "a"))
            self.broken(0, told, desk.say, "full", ("more", "b", "a"))


class Names(Raising):
    def test_in(self):
        desk = some_desk()
        for name in ("rain", "two", "bad"):
            self.assertIs(name in desk, True)
        for value in WRONG_NAMES + ["sky", "rai", "rainy", "", ("rain",), b"rain", RAIN, desk, ["rain"], {"rain"}]:
            with self.subTest(repr(value)):
                self.assertIs(value in desk, False)
                self.assertIs(value not in desk, True)

    def test_a_desk_is_equal_to_itself_alone(self):
        desk, other = Desk(), Desk()
        for told in (desk, some_desk()):
            self.assertIs(told == told, True)
            self.assertIs(told != told, False)
        self.assertIs(desk == other, False)
        self.assertIs(desk != other, True)
        self.assertIs(some_desk() == some_desk(), False)
        for value in odd_values() + [RAIN, Desk, desk.trial()]:
            self.assertIs(desk == value, False)
            self.assertIs(desk != value, True)

    def test_a_desk_stays_equal_to_itself(self):
        desk = Desk()
        same, other = desk, Desk()
        desk["sky"] = RAIN
        self.assertTrue(desk == same)
        desk.undo()
        self.assertTrue(desk == same)
        with desk.trial() as told:
            self.assertTrue(told == desk)
            self.assertFalse(told == other)

    def test_methods_stand_in_the_class_itself(self):
        names = "__setitem__ __getitem__ __contains__ __len__ __bool__ __eq__ remove say claim lift undo trial tried"
        for name in names.split() + ["titles", "claims", "changes"]:
            self.assertIn(name, vars(Desk))
        self.assertEqual(Desk.__module__, "likelybook.desks")


class Claims(Raising):
    def test_claims_are_kept_as_they_are_made(self):
        desk = Desk()
        desk["sky"] = RAIN
        claims = [
            ("agrees", "sky"), ("sure", "sky", "more", "a", "c"), ("sure", "sky", "least", "a", "bc"),
            ("sure", "sky", "same", "ab", "ab"), ("from", "sky", "a", (1, 2)), ("from", "sky", "", (0, 1)),
            ("from", "sky", "abc", (1, 1)), ("sure", "sky", "least", "a", ""), ("agrees", "sky"),
        ]
        for number, claim in enumerate(claims):
            self.assertIsNone(desk.claim(claim=claim) if number % 2 else desk.claim(claim))
            self.assertEqual(desk.claims, tuple(claims[:number + 1]))
            self.assertIs(type(desk.claims), tuple)
            self.assertEqual(desk.changes, number + 2)

    def test_lifting(self):
        desk = some_desk()
        first, second, third, fourth = desk.claims
        self.assertIsNone(desk.lift(1))
        self.assertEqual(desk.claims, (first, third, fourth))
        self.assertIsNone(desk.lift(index=2))
        self.assertEqual(desk.claims, (first, third))
        self.assertIsNone(desk.lift(0))
        self.assertEqual((desk.claims, desk.changes, len(desk)), ((third,), 10, 3))
        desk.claim(second)
        self.assertEqual(desk.claims, (third, second))

    def test_wrong_indexes(self):
        desk = some_desk()
        for index in odd_values() + [4, 5, -1, -4, 10 ** 30, "0", (0,), ("agrees", "rain")]:
            if index not in (0, 1) or isinstance(index, (bool, EqualToAll)):
                with self.subTest(repr(index)), self.unchanged(desk):
                    self.raised(InvalidIndex, index, desk.lift, index)
                    self.raised(InvalidIndex, index, desk.lift, index=index)
        self.raised(InvalidIndex, 0, Desk().lift, 0)

    def test_wrong_claims(self):
        desk = some_desk()
        for claim in wrong_claims():
            with self.subTest(repr(claim)), self.unchanged(desk):
                self.raised(InvalidClaim, claim, desk.claim, claim)
                self.raised(InvalidClaim, claim, desk.claim, claim=claim)

    def test_a_wrong_claim_comes_ahead_of_an_unknown_name(self):
        desk = some_desk()
        for claim in (("sure", "sky", "less", "a", "b"), ("from", None, "a", (2, 4)), ("agrees", "sky", "a")):
            self.raised(InvalidClaim, claim, desk.claim, claim)

    def test_unknown_names(self):
        desk = some_desk()
        for name in WRONG_NAMES + ["sky", "rai", b"rain", ("rain",), ["rain"]]:
            # The others do not hold of any book.
            for rest in ((), ("more", "a", "b"), ("more", "", "xyz"), ("a", (1, 2)), ("xyz", (1, 1))):
                claim = ({0: "agrees", 2: "from", 3: "sure"}[len(rest)], name, *rest)
                with self.subTest(repr(claim)), self.unchanged(desk):
                    self.raised(UnknownName, name, desk.claim, claim)
                    self.raised(UnknownName, name, desk.claim, claim=claim)

    def test_all_letters_may_stand_in_a_claim(self):
        desk = some_desk()
        for claim in [("sure", "rain", "more", LETTERS, ""), ("sure", "rain", "least", "", "z")]:
            with self.unchanged(desk):
                self.broken(4, None, desk.claim, claim)
        self.broken(4, None, desk.claim, ("from", "rain", LETTERS, (0, 1)))
        self.broken(4, None, desk.claim, ("from", "rain", "bd", (0, 1)))

    def test_agrees(self):
        desk = Desk()
        desk["bad"], desk["rain"] = BAD, RAIN
        with self.unchanged(desk):
            self.broken(0, BAD, desk.claim, ("agrees", "bad"))
        desk.claim(("agrees", "rain"))
        with self.unchanged(desk):
            self.broken(1, BAD, desk.claim, ("agrees", "bad"))
            self.broken(0, BAD, desk.say, "rain", ("least", "b", "a"))
            self.broken(0, BAD, desk.__setitem__, "rain", BAD)

    def test_sure(self):
        desk = Desk()
        desk["rain"] = RAIN
        told = {
            ("a", "b"): ("more", "more least"), ("b", "a"): ("less", ""), ("ab", "a"): ("least", "least"),
            ("a", "ab"): ("most", ""), ("b", "c"): ("open", ""), ("ac", "ac"): ("same", "least same"),
        }
        for (left, right), (shown, words) in told.items():
            for word in ("more", "least", "same"):
                claim = ("sure", "rain", word, left, right)
                with self.subTest(claim):
                    if word in words.split():
                        desk.claim(claim)
                        desk.undo()
                    else:
                        self.broken(0, shown, desk.claim, claim)

    def test_from(self):
        desk = Desk()
        desk["rain"], desk["two"] = RAIN, TWO
        for name, lot, part, wrong, shown in (
            ("rain", "a", (1, 2), (501, 1000), ((1, 2), False)), ("two", "a", (3, 4), (4, 5), ((3, 4), True)),
            ("rain", "b", (0, 1), (1, 10 ** 30), ((0, 1), True)), ("two", "b", (0, 1), (1, 9), ((0, 1), False)),
            ("rain", "ab", (1, 2), (1, 1), ((1, 2), False)), ("rain", "", (0, 1), (1, 1), ((0, 1), True)),
        ):
            with self.subTest(name, lot=lot):
                desk.claim(("from", name, lot, part))
                desk.undo()
                self.broken(0, shown, desk.claim, ("from", name, lot, wrong))
        desk.claim(("from", "rain", "abc", (1, 1)))
        desk.claim(("from", "rain", "a", (1, 3)))
        desk.claim(("from", "two", "a", (2, 3)))

    def test_a_book_that_no_odds_fit(self):
        desk = Desk()
        desk["bad"] = BAD
        for claim in (
            ("sure", "bad", "more", "", "abc"), ("sure", "bad", "same", "a", ""), ("from", "bad", "", (1, 1)),
            ("sure", "bad", "least", "b", "ac"), ("from", "bad", "ab", (1, 2)),
        ):
            self.assertIsNone(desk.claim(claim))
        with self.unchanged(desk):
            self.broken(5, BAD, desk.claim, ("agrees", "bad"))
            self.broken(5, None, desk.claim, ("sure", "bad", "least", "abcd", ""))
            self.broken(5, None, desk.claim, ("sure", "bad", "least", "a", "x"))
            self.broken(5, None, desk.claim, ("from", "bad", "d", (0, 1)))
            self.broken(0, "less", desk.__setitem__, "bad", RAIN)
            self.broken(0, None, desk.__setitem__, "bad", Book("ab", (("more", "", ""),)))
        desk["bad"] = Book("abcd", (("more", "", ""),))
        desk.claim(("sure", "bad", "more", "d", "d"))

    def test_the_first_claim_that_does_not_hold_is_told(self):
        desk = Desk()
        desk["a"], desk["b"] = EMPTY, RAIN
        desk.claim(("agrees", "a"))
        desk.claim(("sure", "b", "more", "a", "b"))
        desk.claim(("sure", "b", "least", "a", "bc"))
        desk.claim(("from", "b", "a", (1, 3)))
        desk.claim(("agrees", "b"))
        with self.unchanged(desk):
            self.broken(1, "open", desk.__setitem__, "b", EMPTY)
            self.broken(2, "open", desk.__setitem__, "b", Book("abc", (("more", "a", "b"),)))
            self.broken(1, None, desk.__setitem__, "b", Book("xyz"))
            self.broken(1, None, desk.__setitem__, "b", Book("ac"))
            self.broken(2, None, desk.__setitem__, "b", Book("abz", (("more", "a", "b"),)))
            self.broken(4, BAD, desk.__setitem__, "b", BAD)
            self.broken(0, Book("abc", (("more", "", "a"),)), desk.say, "a", ("more", "", "a"))
            self.broken(4, Book("abc", BAD.sayings), desk.say, "b", ("least", "b", "a"))
        desk.lift(1)
        self.broken(1, "open", desk.__setitem__, "b", EMPTY)
        desk.lift(1)
        self.broken(1, ((0, 1), True), desk.__setitem__, "b", EMPTY)


class Undoing(Raising):
    def test_each_kind_of_change_is_taken_back(self):
        desk = Desk()
        changes = [
            lambda: desk.__setitem__("a", RAIN), lambda: desk.__setitem__("b", TWO),
            lambda: desk.__setitem__("a", EMPTY), lambda: desk.__setitem__("a", EMPTY),
            lambda: desk.say("a", ("more", "a", "bc")), lambda: desk.say("a", ("same", "", "")),
            lambda: desk.claim(("sure", "a", "more", "a", "b")), lambda: desk.claim(("agrees", "b")),
            lambda: desk.claim(("agrees", "b")), lambda: desk.lift(1), lambda: desk.lift(1),
            lambda: desk.remove("b"), lambda: desk.lift(0), lambda: desk.remove("a"),
        ]
        seen = [all_of(desk)]
        for change in changes:
            self.assertIsNone(change())
            seen.append(all_of(desk))
        self.assertEqual([told[2] for told in seen], list(range(15)))
        while len(seen) > 1:
            self.assertEqual(all_of(desk), seen.pop())
            self.assertIsNone(desk.undo())
        self.assertEqual(all_of(desk), seen.pop())
        with self.unchanged(desk):
            self.error(NothingToUndo, desk.undo)
            self.error(NothingToUndo, desk.undo)

    def test_new_changes_after_undo(self):
        desk = some_desk()
        desk.undo()
        desk.undo()
        self.assertEqual(desk.changes, 5)
        desk["new"] = RAIN
        desk.claim(("agrees", "new"))
        self.assertEqual((desk.changes, desk.titles), (7, ("bad", "new", "rain", "two")))
        desk.undo()
        desk.undo()
        self.assertEqual((desk.changes, desk.titles, len(desk.claims)), (5, ("bad", "rain", "two"), 2))
        for left in range(4, -1, -1):
            desk.undo()
            self.assertEqual(desk.changes, left)
        self.assertEqual((desk.titles, desk.claims), ((), ()))
        self.error(NothingToUndo, desk.undo)

    def test_errors_are_no_changes(self):
        desk = some_desk()
        for wrong in (("agrees", "sky"), ("agrees",), ("sure", "rain", "same", "a", "b")):
            with self.assertRaises((UnknownName, InvalidClaim, ArithmeticError)):
                desk.claim(wrong)
        self.assertEqual(desk.changes, 7)
        desk.undo()
        self.assertEqual(len(desk.claims), 3)

    def test_a_book_comes_back_as_it_was(self):
        desk = Desk()
        desk["a"] = RAIN
        desk.say("a", ("more", "b", "c"))
        desk["a"] = TWO
        desk.remove("a")
        desk.undo()
        self.assertIs(desk["a"], TWO)
        desk.undo()
        self.assertEqual(desk["a"].text, "cases abc\nmore a bc\nmore b c")
        desk.undo()
        self.assertIs(desk["a"], RAIN)

    def test_many_changes(self):
        desk = Desk()
        for _ in range(5000):
            desk["a"] = RAIN
        self.assertEqual(desk.changes, 5000)
        for _ in range(4999):
            desk.undo()
        self.assertEqual((desk.changes, desk.titles), (1, ("a",)))


class Stop(BaseException):
    """An exception that is no Exception."""


KINDS = (ValueError, KeyError, Stop, KeyboardInterrupt, SystemExit, GeneratorExit, StopIteration, NothingToUndo)


class Trials(Raising):
    def test_a_call_alone_changes_nothing(self):
        desk = some_desk()
        with self.unchanged(desk):
            told = [desk.trial(), desk.trial()]
            self.assertTrue(told[0])
        with told[0]:
            desk.undo()
        self.assertEqual(desk.changes, 6)

    def test_rows_that_end_well(self):
        desk = some_desk()
        with desk.trial() as told:
            self.assertIs(told, desk)
            told["new"] = RAIN
            desk.claim(("agrees", "new"))
            desk.lift(0)
        self.assertEqual((desk.changes, desk.titles), (10, ("bad", "new", "rain", "two")))
        self.assertEqual(desk.claims[-1], ("agrees", "new"))

    def test_rows_that_end_with_an_exception(self):
        for kind in KINDS:
            desk = some_desk()
            before = all_of(desk)
            raised = kind()
            with self.subTest(kind.__name__):
                with self.assertRaises(kind) as caught:
                    with desk.trial() as told:
                        told["new"] = RAIN
                        told.say("rain", ("least", "b", "c"))
                        told.lift(3)
                        told.remove("bad")
                        told.claim(("agrees", "new"))
                        self.assertEqual(desk.changes, 12)
                        raise raised
                self.assertIs(caught.exception, raised)
                self.assertEqual(all_of(desk), before)
                self.assertIs(desk["rain"], RAIN)

    def test_errors_of_the_desk_itself(self):
        desk = some_desk()
        with self.unchanged(desk):
            with self.assertRaises(UnknownName):
                with desk.trial():
                    desk.lift(3)
                    desk.remove("bad")
                    desk.remove("bad")

    def test_changes_made_before_come_back(self):
        desk = some_desk()
        with self.unchanged(desk):
            with self.assertRaises(Stop):
                with desk.trial():
                    for _ in range(5):
                        desk.undo()
                    desk["other"] = TWO
                    desk.undo()
                    desk.undo()
                    desk["bad"] = TWO
                    raise Stop
        for left in range(6, -1, -1):
            desk.undo()
            self.assertEqual(desk.changes, left)

    def test_what_is_undone_in_rows_that_end_well_stays_so(self):
        desk = some_desk()
        with desk.trial():
            desk.undo()
            desk.undo()
        self.assertEqual((desk.changes, len(desk.claims)), (5, 2))
        desk.undo()
        self.assertEqual(desk.changes, 4)

    def test_rows_may_be_left_early(self):
        desk = Desk()
        for _ in range(3):
            with desk.trial():
                desk["a"] = RAIN
                break
        self.assertEqual(desk.titles, ("a",))
        self.assertEqual(leave(desk), "left")
        self.assertEqual(desk.titles, ("a", "b"))

    def test_trials_within_trials(self):
        desk = Desk()
        with desk.trial():
            desk["a"] = RAIN
            with self.assertRaises(Stop):
                with desk.trial():
                    desk["b"] = RAIN
                    with desk.trial():
                        desk["c"] = RAIN
                    self.assertEqual(desk.titles, ("a", "b", "c"))
                    raise Stop
            self.assertEqual((desk.titles, desk.changes), (("a",), 1))
            desk["d"] = RAIN
        self.assertEqual((desk.titles, desk.changes), (("a", "d"), 2))
        with self.unchanged(desk):
            with self.assertRaises(Stop):
                with desk.trial():
                    with desk.trial():
                        desk["e"] = RAIN
                    desk.undo()
                    desk.undo()
                    raise Stop

    def test_the_same_trial_within_itself(self):
        desk = Desk()
        trial = desk.trial()
        with trial as one:
            desk["a"] = RAIN
            with self.assertRaises(Stop):
                with trial as two:
                    self.assertIs(one, two)
                    desk["b"] = RAIN
                    raise Stop
            self.assertEqual((desk.titles, desk.changes), (("a",), 1))
            with trial:
                desk["c"] = RAIN
                with self.assertRaises(Stop):
                    with trial:
                        desk.remove("a")
                        desk.undo()
                        desk.undo()
                        raise Stop
                self.assertEqual(desk.titles, ("a", "c"))
        self.assertEqual((desk.titles, desk.changes), (("a", "c"), 2))

    def test_the_same_trial_fails_as_a_whole(self):
        desk = some_desk()
        trial = desk.trial()
        with self.unchanged(desk):
            with self.assertRaises(Stop):
                with trial:
                    desk["a"] = RAIN
                    with trial:
                        desk["b"] = RAIN
                    self.assertEqual(desk.changes, 9)
                    raise Stop

    def test_the_same_trial_again(self):
        desk = Desk()
        trial = desk.trial()
        desk["a"] = RAIN
        for name in ("b", "c"):
            with self.unchanged(desk):
                with self.assertRaises(Stop):
                    with trial:
                        desk[name] = RAIN
                        raise Stop
            with trial:
                desk[name] = TWO
        # It takes back to where the rows began, not to where the trial was made.
        self.assertEqual((desk.titles, desk.changes), (("a", "b", "c"), 3))

    def test_two_desks(self):
        desk, other = some_desk(), some_desk()
        with self.unchanged(desk):
            with self.assertRaises(Stop):
                with desk.trial(), other.trial():
                    desk.undo()
                    with self.assertRaises(Stop):
                        with desk.trial():
                            other.undo()
                            raise Stop
                    self.assertEqual(other.changes, 6)
                    raise Stop
        self.assertEqual(other.changes, 7)

    def test_tried(self):
        desk = some_desk()
        told = object()
        self.assertIs(desk.tried(lambda given: told), told)
        self.assertIs(desk.tried(lambda given: given), desk)
        self.assertIsNone(desk.tried(action=lambda given: given.undo()))
        self.assertEqual(desk.changes, 6)
        self.assertEqual(desk.tried(lambda given: given.claims[0]), ("agrees", "rain"))

    def test_tried_that_ends_with_an_exception(self):
        for kind in KINDS:
            desk = some_desk()
            raised = kind()

            def action(given):
                given.undo()
                given["new"] = TWO
                raise raised

            with self.subTest(kind.__name__), self.unchanged(desk):
                with self.assertRaises(kind) as caught:
                    desk.tried(action)
                self.assertIs(caught.exception, raised)

    def test_tried_within_tried(self):
        desk = Desk()

        def fails(given):
            given["b"] = RAIN
            raise Stop

        def action(given):
            given["a"] = RAIN
            try:
                given.tried(fails)
            except Stop:
                return given.titles

        self.assertEqual(desk.tried(action), ("a",))
        self.assertEqual((desk.titles, desk.changes), (("a",), 1))


def leave(desk):
    with desk.trial():
        desk["b"] = TWO
        return "left"


class Model:
    """A desk said a second time: snapshots of books and claims, asked by the corners of all odds."""

    def __init__(self):
        self.past = []
        self.books, self.claims = {}, ()

    def change(self, books, claims):
        """None, or the index of the first claim that does not hold, and what is to be shown."""
        for index, (word, name, *rest) in enumerate(claims):
            shown = self.shown(books[name], word, *rest)
            if shown is not None:
                return index, shown
        self.past.append((self.books, self.claims))
        self.books, self.claims = books, claims
        return None

    def undo(self):
        self.books, self.claims = self.past.pop()

    @staticmethod
    def shown(book, word, *rest):
        """None if a claim holds, otherwise a tuple of what is shown, or the book of which a balance is."""
        fits = oracle.some_fit(book.cases, book.sayings)
        if word == "agrees":
            return None if fits else book
        own = [lot in lots(book.cases) for lot in rest if isinstance(lot, str) and lot not in ("more", "least", "same")]
        if not all(own):
            return (None,)
        if not fits:
            return None
        if word == "sure":
            holds = oracle.always_holds(book.cases, book.sayings, rest)
            return None if holds else (oracle.word(book.cases, book.sayings, rest[1], rest[2]),)
        least = oracle.bound(book.cases, book.sayings, rest[0], min)
        return None if least[0][0] * rest[1][1] >= rest[1][0] * least[0][1] else (least,)


class Walks(Raising):
    """Desks that are led by chance, beside a model."""

    def check(self, desk, model):
        self.assertEqual(desk.titles, tuple(sorted(model.books)))
        self.assertEqual({name: desk[name] for name in desk.titles}, model.books)
        self.assertEqual((desk.claims, desk.changes), (model.claims, len(model.past)))

    def told(self, wanted, function, *values):
        """A call does what the model does."""
        if wanted is None:
            self.assertIsNone(function(*values))
        else:
            index, shown = wanted
            self.broken(index, shown if isinstance(shown, Book) else shown[0], function, *values)
        return wanted is None

    def some_claim(self, rng, names):
        cases = rng.choice(("abc", "abc", "abcd", "bc"))
        lot, other = ["".join([case for case in cases if rng.random() < 0.5]) for _ in range(2)]
        below = rng.randint(1, 6)
        part = pair(rng.randint(0, below)) if below == 1 else (1, below)
        return rng.choice((
            ("agrees", rng.choice(names)), ("from", rng.choice(names), lot, part),
            ("sure", rng.choice(names), rng.choice(("more", "least", "same")), lot, other),
        ))

    def step(self, rng, desk, model):
        kind = rng.choice(("put", "put", "say", "say", "claim", "claim", "claim", "lift", "undo", "remove"))
        names = sorted(model.books)
        if kind == "put" or not names:
            name = rng.choice(("a", "b", "c"))
            cases = rng.choice(("abc", "abc", "abcd", "bc"))
            book = Book(cases, tuple([some_saying(rng, cases) for _ in range(rng.randint(0, 2))]))
            return self.told(model.change({**model.books, name: book}, model.claims), desk.__setitem__, name, book)
        name = rng.choice(names)
        if kind == "say":
            saying = some_saying(rng, model.books[name].cases)
            if len(model.books[name]) == 12:
                return self.raised(TooMany, 12, desk.say, name, saying)
            books = {**model.books, name: model.books[name].with_saying(saying)}
            return self.told(model.change(books, model.claims), desk.say, name, saying)
        if kind == "claim":
            claim = self.some_claim(rng, names)
            return self.told(model.change(model.books, model.claims + (claim,)), desk.claim, claim)
        if kind == "lift" and model.claims:
            index = rng.randrange(len(model.claims))
            model.change(model.books, model.claims[:index] + model.claims[index + 1:])
            return desk.lift(index)
        if kind == "remove":
            used = [index for index, claim in enumerate(model.claims) if claim[1] == name]
            if used:
                return self.raised(InUse, used[0], desk.remove, name)
            model.change({other: model.books[other] for other in names if other != name}, model.claims)
            return desk.remove(name)
        if model.past:
            model.undo()
            return desk.undo()
        return self.error(NothingToUndo, desk.undo)

    def walk(self, rng, desk, model, depth):
        done = []
        for _ in range(12):
            done.append(self.step(rng, desk, model))
            self.check(desk, model)
            if depth and rng.random() < 0.2:
                kept = (list(model.past), model.books, model.claims)
                try:
                    with desk.trial():
                        done += self.walk(rng, desk, model, depth - 1)
                        if rng.random() < 0.6:
                            raise Stop
                except Stop:
                    model.past, model.books, model.claims = kept
                self.check(desk, model)
        return done

    def test_walks(self):
        done = []
        for seed in range(40):
            desk, model = Desk(), Model()
            done += self.walk(random.Random(seed), desk, model, 2)
            while model.past:
                model.undo()
                desk.undo()
                self.check(desk, model)
            self.error(NothingToUndo, desk.undo)
        self.assertGreater(done.count(False), 100)
        self.assertGreater(done.count(True), 100)

    def test_claims_of_some_books(self):
        rng = random.Random(5)
        seen = {}
        for book in some_books(6, 150):
            desk = Desk()
            desk["a"] = book
            for _ in range(4):
                lot, other = ["".join([case for case in book.cases if rng.random() < 0.5]) for _ in range(2)]
                below = rng.randint(2, 9)
                for claim in (
                    ("agrees", "a"), ("sure", "a", rng.choice(("more", "least", "same")), lot, other),
                    ("from", "a", lot, pair(oracle.Fraction(rng.randint(0, below), below))),
                ):
                    wanted = Model.shown(book, claim[0], *claim[2:])
                    seen[claim[0], wanted is None] = seen.get((claim[0], wanted is None), 0) + 1
                    index = len(desk.claims)
                    self.told(None if wanted is None else (index, wanted), desk.claim, claim)
        self.assertGreater(min(seen.values()), 25)
        self.assertEqual(len(seen), 6)

    def test_bounds_just_so(self):
        for book in some_books(7, 60):
            if oracle.some_fit(book.cases, book.sayings):
                desk = Desk()
                desk["a"] = book
                for lot in lots(book.cases)[:8]:
                    least = oracle.bound(book.cases, book.sayings, lot, min)
                    desk.claim(("from", "a", lot, least[0]))
                    above = pair(oracle.Fraction(*least[0]) + oracle.Fraction(1, 10 ** 9))
                    if above[0] <= above[1]:
                        self.broken(len(desk.claims), least, desk.claim, ("from", "a", lot, above))


class Shown(unittest.TestCase):
    def test_the_balance_that_is_shown_is_one_of_the_new_book(self):
        desk = Desk()
        desk["a"] = EMPTY
        desk.claim(("agrees", "a"))
        book = Book("ab", (("least", "a", "b"), ("same", "a", "b"), ("times", "b", "ab", 2)))
        try:
            desk["a"] = book
        except ArithmeticError as error:
            self.assertTrue(balances(book, error.shown))
        else:
            self.fail("it is broken")


if __name__ == "__main__":
    unittest.main()
