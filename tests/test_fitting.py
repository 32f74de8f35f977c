import random
import unittest
from fractions import Fraction
from itertools import product

from likelybook.books import Book
from likelybook.errors import BadValue, InvalidLot, InvalidOdds, NotABook
from likelybook.fitting import agrees, balance, failing, is_balance, odds, odds_of
from tests.support import (
    EqualToAll,
    all_sayings,
    are_odds,
    balances,
    holds,
    lot_odds,
    lots,
    odd_values,
    pair,
    some_books,
    some_odds,
)

RAIN = Book("abc", (("more", "a", "bc"),))
BAD = RAIN.with_saying(("least", "b", "a"))
THIRDS = ((1, 3), (1, 3), (1, 3))


def first_failing(book, told):
    for index, saying in enumerate(book.sayings):
        if not holds(book.cases, saying, told):
            return index
    return None


class Checking(unittest.TestCase):
    def check_book(self, book):
        """What is told of a book is right: odds that fit, or a balance, which cannot both be."""
        told, counts = odds(book), balance(book)
        self.assertIs(agrees(book), told is not None)
        self.assertIs(told is None, counts is not None)
        if told is None:
            self.assertIs(type(counts), tuple)
            self.assertEqual({type(count) for count in counts}, {int})
            self.assertTrue(balances(book, counts))
            self.assertIs(is_balance(book, counts), True)
        else:
            self.assertTrue(are_odds(book.cases, told))
            self.assertIsNone(first_failing(book, told))
            self.assertIsNone(failing(book, told))
        return told is not None

    def check_sayings(self, cases, *sayings):
        return self.check_book(Book(cases, sayings))


class Agreeing(Checking):
    def test_books_without_sayings(self):
        for cases in ("ab", "abc", "wxyz", "abcde", "abcdef"):
            self.assertTrue(self.check_sayings(cases))

    def test_each_saying_alone(self):
        for cases in ("ab", "abc"):
            for saying in all_sayings(cases, (2, 9)):
                with self.subTest(saying):
                    self.check_sayings(cases, saying)

    def test_each_two_sayings_about_two_cases(self):
        known = {True: 0, False: 0}
        for sayings in product(all_sayings("ab", (2,)), repeat=2):
            known[self.check_sayings("ab", *sayings)] += 1
        self.assertGreater(min(known.values()), 1000)

    def test_books_of_all_sizes(self):
        seen = {}
        for book in some_books(2, 4000):
            seen.setdefault(self.check_book(book), set()).add((len(book.cases), len(book)))
        sizes = {(cases, sayings) for cases in range(2, 7) for sayings in range(13)}
        self.assertEqual(seen[True], sizes)
        self.assertTrue({size for size in sizes if size[1] > 1} <= seen[False])

    def test_sayings_with_the_lot_of_none(self):
        self.assertFalse(self.check_sayings("ab", ("more", "", "")))
        self.assertFalse(self.check_sayings("ab", ("more", "", "a")))
        self.assertFalse(self.check_sayings("ab", ("least", "", "ab")))
        self.assertFalse(self.check_sayings("ab", ("same", "ab", "")))
        self.assertFalse(self.check_sayings("ab", ("times", "", "ab", 2)))
        self.assertTrue(self.check_sayings("ab", ("least", "", "a")))
        self.assertTrue(self.check_sayings("ab", ("same", "", "")))
        self.assertTrue(self.check_sayings("ab", ("times", "", "b", 9)))
        self.assertTrue(self.check_sayings("ab", ("more", "ab", "")))
        self.assertFalse(self.check_sayings("ab", ("times", "", "b", 9), ("more", "b", "")))

    def test_lots_that_have_cases_in_common(self):
        self.assertFalse(self.check_sayings("abc", ("more", "a", "a")))
        self.assertTrue(self.check_sayings("abc", ("least", "ab", "ab")))
        self.assertTrue(self.check_sayings("abc", ("times", "a", "a", 2)))
        self.assertFalse(self.check_sayings("abc", ("times", "abc", "abc", 2)))
        self.assertFalse(self.check_sayings("abc", ("times", "a", "a", 2), ("more", "a", "")))

    def test_rings(self):
        ring = [("least", "a", "b"), ("least", "b", "c"), ("least", "c", "a")]
        self.assertTrue(self.check_sayings("abc", *ring))
        self.assertFalse(self.check_sayings("abc", *ring[:2], ("more", "c", "a")))
        self.assertFalse(self.check_sayings("abc", *ring, ("more", "a", "bc")))

    def test_same_may_be_taken_either_way(self):
        for left, right in (("a", "b"), ("b", "a")):
            self.assertFalse(self.check_sayings("abc", ("same", left, right), ("more", "a", "b")))
            self.assertFalse(self.check_sayings("abc", ("same", left, right), ("more", "b", "a")))
            self.assertTrue(self.check_sayings("abc", ("same", left, right), ("more", "b", "c")))

    def test_just_bearable_and_just_not(self):
        sayings = (("times", "a", "b", 2), ("least", "bc", "a"), ("least", "b", "c"), ("more", "c", ""))
        self.assertTrue(self.check_sayings("abc", *sayings))
        self.assertEqual(odds(Book("abc", sayings)), ((1, 2), (1, 4), (1, 4)))
        for saying in (("more", "bc", "a"), ("more", "a", "bc"), ("more", "b", "c"), ("times", "a", "c", 3)):
            self.assertFalse(self.check_sayings("abc", *sayings, saying))
        self.assertTrue(self.check_sayings("abc", *sayings, ("times", "ab", "c", 3)))
        self.assertFalse(self.check_sayings("abc", *sayings, ("times", "ab", "c", 4)))

    def test_steep_odds(self):
        steps = [("times", left, right, 9) for left, right in zip("abcde", "bcdef")]
        self.assertTrue(self.check_sayings("abcdef", *steps, ("more", "f", "")))
        self.assertFalse(self.check_sayings("abcdef", *steps, ("more", "f", ""), ("times", "bcdef", "a", 2)))

    def test_four_sayings_of_which_any_three_agree(self):
        sayings = (("more", "ac", "d"), ("more", "ad", "bc"), ("more", "cd", "ae"), ("more", "be", "acd"))
        self.assertFalse(self.check_sayings("abcde", *sayings))
        self.assertTrue(is_balance(Book("abcde", sayings), (1, 1, 1, 1)))
        for index in range(4):
            self.assertTrue(self.check_book(Book("abcde", sayings).without(index)))

    def test_not_a_book(self):
        for value in odd_values() + ["cases ab", ("ab", ())]:
            for function in (agrees, odds, balance):
                with self.subTest(value, function=function.__name__):
                    for call in (lambda: function(value), lambda: function(book=value)):
                        with self.assertRaises(NotABook) as caught:
                            call()
                        self.assertIs(caught.exception.given, value)

    def test_equal_books_tell_equal_things(self):
        for book in some_books(3, 100):
            again = Book.read(book.text)
            self.assertEqual(odds(book=book), odds(again))
            self.assertEqual(balance(book=book), balance(again))
            self.assertIs(agrees(book=book), agrees(again))


class OddsOfLots(Checking):
    def test_each_lot(self):
        rng = random.Random(4)
        for book in some_books(5, 60):
            told = some_odds(rng, len(book.cases))
            for lot in lots(book.cases):
                self.assertEqual(odds_of(book, told, lot), pair(lot_odds(book.cases, told, lot)))

    def test_by_name_and_whether_they_fit_or_not(self):
        self.assertEqual(odds_of(book=RAIN, odds=THIRDS, lot="ac"), (2, 3))
        self.assertEqual(odds_of(lot="", odds=THIRDS, book=BAD), (0, 1))
        self.assertEqual(odds_of(RAIN, THIRDS, "abc"), (1, 1))

    def test_great_numbers(self):
        great = 10 ** 39 + 7
        told = ((1, great), (great - 2, great), (1, great))
        self.assertEqual(odds_of(RAIN, told, "ac"), (2, great))
        self.assertEqual(odds_of(RAIN, told, "abc"), (1, 1))
        told = ((1, great), (1, great - 1), pair(1 - Fraction(1, great) - Fraction(1, great - 1)))
        self.assertEqual(odds_of(RAIN, told, "ab"), pair(Fraction(1, great) + Fraction(1, great - 1)))
        self.assertEqual(failing(RAIN, told), 0)

    def test_wrong_lots(self):
        for lot in odd_values() + ["d", "ba", "aa", "abcd", "-", "cb", ("a",), b"a", ["a"], RAIN]:
            if not (isinstance(lot, str) and lot == ""):
                with self.subTest(lot):
                    for call in (lambda: odds_of(RAIN, THIRDS, lot), lambda: odds_of(RAIN, THIRDS, lot=lot)):
                        with self.assertRaises(InvalidLot) as caught:
                            call()
                        self.assertIs(caught.exception.given, lot)

    def test_the_first_error_is_raised(self):
        with self.assertRaises(NotABook) as caught:
            odds_of("abc", ((1, 2),), "ba")
        self.assertEqual(caught.exception.given, "abc")
        with self.assertRaises(InvalidOdds) as caught:
            odds_of(RAIN, ((1, 3), (2, 6), (1, 3)), "ba")
        self.assertEqual(caught.exception.index, 1)
        with self.assertRaises(InvalidOdds) as caught:
            odds_of(lot="ba", odds=((1, 3), (1, 3), (1, 2)), book=RAIN)
        self.assertIsNone(caught.exception.index)
        with self.assertRaises(NotABook):
            failing(None, None)


class Failing(Checking):
    def test_each_saying_at_its_edge(self):
        half = ((1, 2), (1, 4), (1, 4))
        wanted = {
            ("more", "a", "b"): True, ("more", "a", "bc"): False, ("more", "b", "a"): False, ("more", "b", "c"): False,
            ("least", "a", "b"): True, ("least", "a", "bc"): True, ("least", "b", "a"): False, ("least", "", ""): True,
            ("same", "a", "bc"): True, ("same", "a", "b"): False, ("same", "b", "a"): False, ("same", "b", "c"): True,
            ("times", "a", "b", 2): True, ("times", "a", "b", 3): False, ("times", "abc", "b", 4): True,
            ("times", "abc", "b", 5): False, ("times", "abc", "a", 2): True, ("times", "abc", "ab", 2): False,
            ("times", "a", "", 9): True, ("times", "", "", 9): True, ("times", "", "b", 2): False,
        }
        for saying, does in wanted.items():
            with self.subTest(saying):
                self.assertEqual(failing(Book("abc", (saying,)), half), None if does else 0)

    def test_the_first_one_of_several(self):
        rng = random.Random(6)
        seen = set()
        for book in some_books(7, 1500):
            told = some_odds(rng, len(book.cases))
            index = failing(book, told)
            self.assertEqual(index, first_failing(book, told))
            self.assertIn(type(index), (int, type(None)))
            seen.add(index)
        self.assertTrue({None, 0, 1, 2, 3} <= seen)

    def test_by_name(self):
        self.assertEqual(failing(odds=THIRDS, book=BAD), 0)
        self.assertEqual(failing(book=Book("abc"), odds=THIRDS), None)

    def test_not_a_book(self):
        for value in odd_values():
            for call in (lambda: failing(value, THIRDS), lambda: odds_of(value, THIRDS, "a")):
                with self.assertRaises(NotABook) as caught:
                    call()
                self.assertIs(caught.exception.given, value)

    def check_odds(self, index, value):
        calls = (
            lambda: failing(RAIN, value), lambda: failing(book=RAIN, odds=value),
            lambda: odds_of(RAIN, value, "a"), lambda: odds_of(book=RAIN, odds=value, lot="a"),
        )
        for call in calls:
            with self.subTest(value):
                with self.assertRaises(InvalidOdds) as caught:
                    call()
                self.assertEqual(caught.exception.index, index)
                self.assertIsNot(caught.exception.index, False)

    def test_odds_that_are_no_tuple(self):
        for value in odd_values() + [list(THIRDS)]:
            if not isinstance(value, tuple):
                self.check_odds(None, value)

    def test_the_first_that_is_no_fraction(self):
        wrong = odd_values() + [
            (2, 6), (0, 2), (2, 2), (0, 3), (1, 0), (0, 0), (1, -3), (-1, -3), (0, -1), (-1, 3), (-1, 1), (True, 3),
            (1, True), (True, True), (False, 1), (1,), (1, 3, 1), [1, 3], (None, 3), (1, None), ("1", 3), (1, "3"),
            "13", 1, 0, ((1, 3),), (EqualToAll(), 3), (1, EqualToAll()), (EqualToAll(), EqualToAll()),
        ]
        for value in wrong:
            self.check_odds(0, (value, (1, 3), (1, 3)))
            self.check_odds(1, ((1, 3), value))
            self.check_odds(2, ((0, 1), (1, 1), value, value, (1, 3)))

    def test_too_many_and_too_few(self):
        self.check_odds(3, THIRDS + ((0, 1),))
        self.check_odds(3, ((1, 1), (0, 1), (0, 1), (0, 1), (2, 4)))
        self.check_odds(3, THIRDS + (None,))
        self.check_odds(1, ((1, 3), None, (1, 3), (0, 1)))
        self.check_odds(None, ((1, 2), (1, 2)))
        self.check_odds(None, ())
        self.check_odds(0, ((2, 4), (1, 2)))

    def test_sums_that_are_not_1(self):
        self.check_odds(None, ((1, 3), (1, 3), (1, 2)))
        self.check_odds(None, ((1, 3), (1, 3), (1, 4)))
        self.check_odds(None, ((0, 1), (0, 1), (0, 1)))
        self.check_odds(None, ((1, 1), (1, 1), (0, 1)))
        self.check_odds(None, ((1, 1), (1, 10 ** 39), (0, 1)))
        self.check_odds(0, ((-1, 3), (1, 3), (1, 1)))

    def test_ones_and_noughts_are_fractions(self):
        self.assertIsNone(failing(RAIN, ((1, 1), (0, 1), (0, 1))))


class Balances(Checking):
    def test_counts_by_the_words_of_the_document(self):
        books = [
            (), (("least", "", "ab"),), (("more", "", ""), ("same", "", "ab")),
            (("more", "a", "b"), ("least", "b", "a")), (("same", "ab", ""), ("least", "a", "b")),
            (("times", "a", "b", 3), ("more", "b", "a")),
            (("same", "a", "b"), ("more", "a", "b"), ("times", "", "", 2)),
            (("least", "a", "b"), ("least", "b", "a"), ("same", "", "a")),
        ]
        found = {True: 0, False: 0}
        for book in [Book("ab", sayings) for sayings in books]:
            for counts in product(range(-2, 4), repeat=len(book)):
                self.assertIs(is_balance(book, counts), balances(book, counts))
                found[balances(book, counts)] += 1
        self.assertGreater(min(found.values()), 40)

    def test_counts_near_a_balance(self):
        rng = random.Random(8)
        found = {True: 0, False: 0}
        for book in some_books(9, 800):
            told = balance(book)
            if told:
                for _ in range(4):
                    counts = tuple([count + rng.choice((-1, 0, 0, 0, 1)) for count in told])
                    self.assertIs(is_balance(book, counts), balances(book, counts))
                    found[balances(book, counts)] += 1
        self.assertGreater(min(found.values()), 200)

    def test_edges(self):
        self.assertIs(is_balance(Book("ab"), ()), False)
        self.assertIs(is_balance(BAD, (0, 0)), False)
        self.assertIs(is_balance(BAD, (0, 1)), False)
        self.assertIs(is_balance(BAD, (1, 2)), False)
        self.assertIs(is_balance(BAD, (10 ** 39, 10 ** 39)), True)
        self.assertIs(is_balance(BAD, (10 ** 39 + 1, 10 ** 39)), False)
        # All sums are 0, and no saying with the word "more" is taken.
        self.assertIs(is_balance(Book("ab", (("least", "a", "b"), ("least", "b", "a"))), (1, 1)), False)
        # Only one of the sums is below 0.
        self.assertIs(is_balance(Book("ab", (("least", "", "b"),)), (1,)), False)
        self.assertIs(is_balance(Book("ab", (("same", "ab", ""),)), (-1,)), True)
        self.assertIs(is_balance(Book("ab", (("least", "ab", ""),)), (-1,)), False)
        self.assertIs(is_balance(Book("ab", (("times", "", "ab", 2),)), (1,)), True)
        self.assertIs(is_balance(book=BAD, counts=(1, 1)), True)

    def test_a_balance_with_less_than_no_times_the_others(self):
        book = Book("ab", (("more", "a", "b"), ("same", "a", "b"), ("least", "a", "")))
        self.assertIs(is_balance(book, (1, -1, 0)), True)
        self.assertIs(is_balance(book, (-1, 1, 0)), False)
        self.assertIs(is_balance(book, (1, -2, -1)), False)

    def test_any_value(self):
        wrong = odd_values() + [
            [1, 1], (1,), (1, 1, 0), (1, 1, 1), (True, True), (1, True), (True, 1), (False, 1), ("1", "1"),
            (None, None), ((1, 1), (1, 1)), (1, (1,)), (EqualToAll(), 1), (1, EqualToAll()), {0: 1, 1: 1},
            "11", b"\x01\x01", (-1, -1), RAIN, BAD, THIRDS,
        ]
        for value in wrong:
            with self.subTest(value):
                self.assertIs(is_balance(BAD, value), False)
                self.assertIs(is_balance(book=BAD, counts=value), False)
                self.assertIs(is_balance(RAIN, value), False)

    def test_not_a_book(self):
        for value in odd_values():
            for counts in ((1, 1), (), None):
                with self.assertRaises(NotABook) as caught:
                    is_balance(value, counts)
                self.assertIs(caught.exception.given, value)
        self.assertTrue(issubclass(NotABook, BadValue))

    def test_a_balance_of_a_smaller_book(self):
        counts = balance(BAD)
        self.assertIs(is_balance(BAD.with_saying(("least", "a", "")), counts), False)
        self.assertIs(is_balance(BAD.with_saying(("least", "a", "")), counts + (0,)), True)
        self.assertIs(is_balance(BAD, counts + (0,)), False)


class Interface(unittest.TestCase):
    def test_each_function_is_defined_in_its_file(self):
        for function in (odds_of, failing, agrees, odds, balance, is_balance):
            self.assertEqual(function.__module__, "likelybook.fitting")

    def test_books_stay_as_they_are(self):
        for book in some_books(10, 40):
            before = (book.cases, book.sayings, book.text)
            agrees(book), odds(book), balance(book), is_balance(book, (1,) * len(book))
            self.assertEqual((book.cases, book.sayings, book.text), before)


if __name__ == "__main__":
    unittest.main()
