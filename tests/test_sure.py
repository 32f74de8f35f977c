import random
import unittest
from fractions import Fraction

from likelybook.books import Book
from likelybook.errors import InvalidLot, NotABook
from likelybook.fitting import agrees, odds
from likelybook.sure import greatest_given, greatest_odds, least_given, least_odds, least_times, sure
from tests import oracle
from tests.support import WRONG_LOTS, Raising, balances, lot_odds, lots, odd_values, pair, some_books

RAIN = Book("abc", (("more", "a", "bc"),))
BAD = RAIN.with_saying(("least", "b", "a"))
ONE_LOT = (least_odds, greatest_odds)
TWO_LOTS = (sure, least_times, least_given, greatest_given)
SECOND_NAMES = {sure: "right", least_times: "right", least_given: "known", greatest_given: "known"}
FIRST_NAMES = {sure: "left", least_times: "left", least_given: "lot", greatest_given: "lot"}


def fitting_books(seed, many):
    """Books of all sizes that some odds fit."""
    return [book for book in some_books(seed, many) if agrees(book)]


def some_pairs(rng, cases, many):
    told = lots(cases)
    return [(rng.choice(told), rng.choice(told)) for _ in range(many)]


class Words(unittest.TestCase):
    def check(self, told, *sayings):
        """Each two lots are surely, in the book of these sayings, as told; and the other way round."""
        turned = {"more": "less", "less": "more", "least": "most", "most": "least", "same": "same", "open": "open"}
        for (left, right), wanted in told.items():
            book = Book("abc", sayings)
            with self.subTest(book.text, left=left, right=right):
                self.assertEqual(sure(book, left, right), wanted)
                self.assertEqual(sure(book, right, left), turned[wanted])
                self.assertEqual(sure(right=left, left=right, book=book), turned[wanted])

    def test_a_book_without_sayings(self):
        self.check({
            ("a", "b"): "open", ("ab", "c"): "open", ("ab", "bc"): "open", ("a", ""): "least", ("a", "ab"): "most",
            ("abc", ""): "more", ("abc", "ab"): "least", ("", ""): "same", ("ac", "ac"): "same", ("abc", "abc"): "same",
        })

    def test_one_saying_of_each_word(self):
        self.check({("a", "b"): "more", ("a", ""): "more", ("b", ""): "least", ("b", "c"): "open"}, ("more", "a", "b"))
        self.check({("a", "b"): "least", ("a", ""): "least", ("a", "c"): "open"}, ("least", "a", "b"))
        self.check({("a", "b"): "same", ("ac", "bc"): "same", ("ab", "a"): "least"}, ("same", "a", "b"))
        self.check({("a", "b"): "least", ("a", "c"): "open", ("b", "c"): "open"}, ("times", "a", "b", 2))
        self.check({("a", "b"): "same", ("a", ""): "same", ("c", ""): "more", ("c", "abc"): "same"}, ("same", "ab", ""))

    def test_where_a_strict_saying_decides(self):
        told = {("a", "b"): "least", ("b", "c"): "least", ("a", "c"): "least", ("ab", "c"): "more"}
        self.check(told, ("least", "a", "b"), ("least", "b", "c"))
        told = {("a", "b"): "least", ("b", "c"): "more", ("a", "c"): "more"}
        self.check(told, ("least", "a", "b"), ("more", "b", "c"))
        self.check({("ab", "b"): "least", ("a", "c"): "same"}, ("same", "a", "c"))
        told = {("ab", "b"): "more", ("a", ""): "more", ("ab", "a"): "least"}
        self.check(told, ("same", "a", "c"), ("more", "c", ""))
        told = {("a", "b"): "least", ("c", "a"): "open", ("ac", "b"): "more", ("b", ""): "least"}
        self.check(told, ("times", "a", "b", 2))
        told = {("a", "b"): "more", ("b", ""): "more", ("ac", "b"): "more", ("c", ""): "least"}
        self.check(told, ("times", "a", "b", 2), ("more", "b", ""))
        self.check({("a", "bc"): "most", ("b", "c"): "open"}, ("least", "bc", "a"))
        self.check({("a", "bc"): "less", ("a", "abc"): "less", ("b", "c"): "open"}, ("more", "bc", "a"))

    def test_what_follows_from_several_sayings(self):
        told = {("a", "c"): "same", ("b", "a"): "same"}
        self.check(told, ("least", "a", "b"), ("least", "b", "c"), ("least", "c", "a"))
        # If a had the odds 0, all cases would have them.
        told = {("a", "c"): "more", ("a", "bc"): "least", ("a", "b"): "more", ("a", ""): "more"}
        self.check(told, ("times", "a", "b", 2), ("times", "a", "c", 2))
        self.check({("b", "c"): "more", ("a", "c"): "open"}, ("more", "ab", "ac"))

    def test_each_word_against_the_corners(self):
        rng = random.Random(1)
        seen = {}
        for book in fitting_books(2, 500):
            for left, right in some_pairs(rng, book.cases, 6):
                wanted = oracle.word(book.cases, book.sayings, left, right)
                with self.subTest(book.text, left=left, right=right):
                    self.assertEqual(sure(book, left, right), wanted)
                strict = any([saying[0] == "more" for saying in book.sayings])
                seen[wanted, strict] = seen.get((wanted, strict), 0) + 1
        self.assertEqual(len(seen), 12)
        self.assertGreater(min(seen.values()), 10)

    def test_all_lots_of_some_books(self):
        for book in fitting_books(3, 60):
            if len(book.cases) < 4:
                for left in lots(book.cases):
                    for right in lots(book.cases):
                        wanted = oracle.word(book.cases, book.sayings, left, right)
                        self.assertEqual(sure(book, left, right), wanted, (book.text, left, right))


class Bounds(unittest.TestCase):
    def check(self, lot, least, greatest, *sayings):
        book = Book("abc", sayings)
        with self.subTest(book.text, lot=lot):
            self.assertEqual(least_odds(book, lot), least)
            self.assertEqual(greatest_odds(book, lot), greatest)
            self.assertEqual(least_odds(lot=lot, book=book), least)
            self.assertEqual(greatest_odds(lot=lot, book=book), greatest)

    def test_the_lot_of_none_and_that_of_all(self):
        for sayings in ((), (("more", "a", "bc"),), (("same", "a", "b"), ("times", "c", "a", 2))):
            self.check("", ((0, 1), True), ((0, 1), True), *sayings)
            self.check("abc", ((1, 1), True), ((1, 1), True), *sayings)

    def test_reached_or_not(self):
        self.check("a", ((0, 1), True), ((1, 1), True))
        self.check("a", ((0, 1), False), ((1, 1), True), ("more", "a", ""))
        self.check("a", ((0, 1), True), ((1, 1), False), ("more", "bc", ""))
        self.check("b", ((0, 1), True), ((1, 2), True), ("least", "a", "b"))
        self.check("b", ((0, 1), True), ((1, 2), False), ("more", "a", "b"))
        self.check("c", ((0, 1), True), ((1, 1), True), ("least", "a", "b"))
        self.check("c", ((0, 1), True), ((1, 1), False), ("more", "a", "b"))
        self.check("ac", ((1, 2), False), ((1, 1), True), ("more", "a", "b"))
        self.check("a", ((1, 3), True), ((1, 1), True), ("least", "a", "b"), ("least", "b", "c"))
        self.check("a", ((1, 3), False), ((1, 1), False), ("least", "a", "b"), ("more", "b", "c"))
        self.check("c", ((0, 1), True), ((1, 3), True), ("least", "a", "b"), ("least", "b", "c"))
        self.check("c", ((0, 1), True), ((1, 3), False), ("least", "a", "b"), ("more", "b", "c"))
        self.check("b", ((0, 1), True), ((1, 10), True), ("times", "a", "b", 9))
        self.check("b", ((0, 1), False), ((1, 10), False), ("times", "a", "b", 9), ("more", "b", ""), ("more", "c", ""))
        self.check("a", ((1, 4), True), ((1, 4), True), ("same", "a", "b"), ("same", "c", "ab"))
        self.check("c", ((1, 2), True), ((1, 2), True), ("same", "c", "ab"), ("more", "a", "b"), ("more", "b", ""))

    def test_a_strict_saying_elsewhere_keeps_it_from_being_reached(self):
        book = Book("abcd", (("least", "a", "b"), ("least", "c", "d"), ("more", "ad", "bc")))
        self.assertEqual(greatest_odds(book, "b"), ((1, 2), False))
        self.assertEqual(greatest_odds(book, "d"), ((1, 2), False))
        self.assertEqual(greatest_odds(book, "ad"), ((1, 1), True))
        self.assertEqual(least_odds(book, "ac"), ((1, 2), False))

    def test_against_the_corners(self):
        rng = random.Random(4)
        seen = {}
        for book in fitting_books(5, 700):
            for lot in {rng.choice(lots(book.cases)) for _ in range(4)}:
                for function, which in ((least_odds, min), (greatest_odds, max)):
                    wanted = oracle.bound(book.cases, book.sayings, lot, which)
                    with self.subTest(book.text, lot=lot):
                        told = function(book, lot)
                        self.assertEqual(told, wanted)
                        self.assertIs(type(told[1]), bool)
                    key = (which, wanted[1])
                    seen[key] = seen.get(key, 0) + (0 < wanted[0][0] < wanted[0][1])
        self.assertGreater(min(seen.values()), 50)

    def test_no_odds_that_fit_are_beyond(self):
        for book in fitting_books(6, 200):
            told = odds(book)
            for lot in lots(book.cases):
                amount = lot_odds(book.cases, told, lot)
                least, greatest = least_odds(book, lot), greatest_odds(book, lot)
                self.assertTrue(Fraction(*least[0]) <= amount <= Fraction(*greatest[0]))
                self.assertTrue(least[1] or amount > Fraction(*least[0]))
                self.assertTrue(greatest[1] or amount < Fraction(*greatest[0]))

    def test_great_numbers(self):
        steps = [("times", left, right, 9) for left, right in zip("abcde", "bcdef")]
        book = Book("abcdef", tuple(steps))
        self.assertEqual(least_odds(book, "f"), ((0, 1), True))
        self.assertEqual(greatest_odds(book, "f"), ((1, sum([9 ** at for at in range(6)])), True))
        self.assertEqual(least_odds(book, "a"), ((9 ** 5, sum([9 ** at for at in range(6)])), True))
        self.assertEqual(least_times(book, "a", "f"), (9 ** 5, 1))


class Times(unittest.TestCase):
    def check(self, left, right, wanted, *sayings):
        book = Book("abc", sayings)
        with self.subTest(book.text, left=left, right=right):
            self.assertEqual(least_times(book, left, right), wanted)
            self.assertEqual(least_times(right=right, book=book, left=left), wanted)

    def test_none_where_the_second_lot_has_the_odds_0(self):
        self.check("a", "", None)
        self.check("", "", None)
        self.check("abc", "", None, ("more", "a", "b"))
        self.check("a", "b", None, ("same", "b", ""))
        self.check("", "b", None, ("same", "b", ""))
        self.check("a", "bc", None, ("same", "bc", ""))
        self.check("a", "bc", (0, 1), ("same", "b", ""))
        self.check("a", "b", (0, 1), ("times", "a", "a", 2))
        self.check("b", "a", None, ("times", "a", "a", 2))
        self.check("b", "a", None, ("times", "a", "a", 2), ("more", "b", "c"))
        self.check("a", "b", None, ("least", "", "b"))

    def test_how_many_times(self):
        self.check("a", "b", (0, 1))
        self.check("", "b", (0, 1))
        self.check("abc", "b", (1, 1))
        self.check("ab", "ab", (1, 1))
        self.check("abc", "abc", (1, 1))
        self.check("a", "abc", (0, 1))
        self.check("a", "b", (1, 1), ("more", "a", "b"))
        self.check("a", "c", (6, 1), ("times", "a", "b", 2), ("times", "b", "c", 3))
        self.check("a", "bc", (3, 2), ("times", "a", "b", 2), ("times", "b", "c", 3))
        self.check("b", "a", (1, 2), ("times", "a", "b", 2), ("same", "a", "bc"), ("least", "b", "c"))
        self.check("abc", "b", (2, 1), ("more", "a", "b"))
        self.check("abc", "c", (3, 1), ("least", "a", "b"), ("more", "b", "c"))

    def test_against_the_corners(self):
        rng = random.Random(7)
        seen = set()
        for book in fitting_books(8, 700):
            for left, right in some_pairs(rng, book.cases, 5):
                wanted = oracle.times(book.cases, book.sayings, left, right)
                with self.subTest(book.text, left=left, right=right):
                    self.assertEqual(least_times(book, left, right), wanted)
                seen.add(wanted)
        self.assertTrue({None, (0, 1), (1, 1), (1, 2), (2, 1)} <= seen)
        self.assertGreater(len(seen), 30)


class Given(unittest.TestCase):
    def check(self, lot, known, least, greatest, *sayings):
        book = Book("abc", sayings)
        with self.subTest(book.text, lot=lot, known=known):
            self.assertEqual((least_given(book, lot, known), greatest_given(book, lot, known)), (least, greatest))
            self.assertEqual(least_given(known=known, lot=lot, book=book), least)
            self.assertEqual(greatest_given(known=known, lot=lot, book=book), greatest)

    def test_none(self):
        self.check("a", "", None, None)
        self.check("", "", None, None)
        self.check("a", "b", None, None, ("same", "b", ""))
        self.check("a", "ab", None, None, ("same", "ab", ""))
        self.check("a", "ab", (0, 1), (0, 1), ("same", "a", ""))

    def test_lots_that_share_cases_all_and_none(self):
        self.check("a", "a", (1, 1), (1, 1))
        self.check("a", "bc", (0, 1), (0, 1))
        self.check("", "bc", (0, 1), (0, 1))
        self.check("abc", "bc", (1, 1), (1, 1))
        self.check("ab", "bc", (0, 1), (1, 1))
        self.check("ab", "bc", (1, 2), (1, 1), ("least", "b", "c"))
        self.check("ab", "bc", (1, 2), (1, 1), ("more", "b", "c"))
        self.check("ac", "bc", (0, 1), (1, 2), ("more", "b", "c"))
        self.check("b", "ab", (0, 1), (1, 4), ("times", "a", "b", 3))
        self.check("bc", "ab", (0, 1), (1, 4), ("times", "a", "b", 3))
        self.check("bc", "ab", (1, 2), (1, 2), ("same", "a", "b"))

    def test_given_all_cases(self):
        for book in fitting_books(9, 150):
            for lot in lots(book.cases):
                self.assertEqual(least_given(book, lot, book.cases), least_odds(book, lot)[0])
                self.assertEqual(greatest_given(book, lot, book.cases), greatest_odds(book, lot)[0])

    def test_against_the_corners(self):
        rng = random.Random(10)
        seen = set()
        for book in fitting_books(11, 700):
            for lot, known in some_pairs(rng, book.cases, 5):
                wanted = oracle.given(book.cases, book.sayings, lot, known)
                with self.subTest(book.text, lot=lot, known=known):
                    self.assertEqual((least_given(book, lot, known), greatest_given(book, lot, known)), wanted)
                seen.add(wanted)
        self.assertTrue({(None, None), ((0, 1), (1, 1)), ((1, 2), (1, 1)), ((0, 1), (1, 2))} <= seen)
        self.assertGreater(len(seen), 30)


class Errors(Raising):
    def test_not_a_book(self):
        for value in odd_values() + ["cases ab", ("ab", ())]:
            with self.subTest(value):
                for function in ONE_LOT:
                    self.raised(NotABook, value, function, value, "a")
                    self.raised(NotABook, value, function, lot=None, book=value)
                for function in TWO_LOTS:
                    self.raised(NotABook, value, function, value, "ba", None)
                    names = {FIRST_NAMES[function]: "a", SECOND_NAMES[function]: "d"}
                    self.raised(NotABook, value, function, book=value, **names)

    def test_wrong_lots(self):
        wrong = [value for value in odd_values() + WRONG_LOTS if not (isinstance(value, str) and value == "")]
        for value in wrong:
            with self.subTest(value):
                for book in (RAIN, BAD):
                    for function in ONE_LOT:
                        self.raised(InvalidLot, value, function, book, value)
                        self.raised(InvalidLot, value, function, lot=value, book=book)
                    for function in TWO_LOTS:
                        self.raised(InvalidLot, value, function, book, value, "a")
                        self.raised(InvalidLot, value, function, book, "a", value)
                        self.raised(InvalidLot, value, function, book, value, "ba")
                        names = {FIRST_NAMES[function]: "", SECOND_NAMES[function]: value}
                        self.raised(InvalidLot, value, function, book=book, **names)

    def test_the_first_wrong_lot(self):
        for function in TWO_LOTS:
            self.raised(InvalidLot, "ba", function, RAIN, "ba", "cb")
            self.raised(InvalidLot, "cb", function, RAIN, "ab", "cb")

    def test_no_odds_last(self):
        bad = [book for book in some_books(12, 80) if not agrees(book)]
        self.assertGreater(len(bad), 20)
        for book in bad + [BAD, Book("ab", (("more", "", ""),)), Book("ab", (("same", "ab", ""),))]:
            for function in ONE_LOT:
                self.no_odds(book, function, book, "")
                self.no_odds(book, function, lot=book.cases, book=book)
            for function in TWO_LOTS:
                self.no_odds(book, function, book, "", "")
                self.no_odds(book, function, book, book.cases, book.cases[:1])
                names = {FIRST_NAMES[function]: "", SECOND_NAMES[function]: book.cases}
                self.no_odds(book, function, book=book, **names)

    def test_the_balance_of_an_error_is_one(self):
        self.assertTrue(balances(BAD, (1, 1)))
        self.assertFalse(balances(BAD, (1, 0)))


class Interface(unittest.TestCase):
    def test_each_function_is_defined_in_its_file(self):
        for function in ONE_LOT + TWO_LOTS:
            self.assertEqual(function.__module__, "likelybook.sure")

    def test_books_stay_as_they_are_and_equal_books_tell_equal_things(self):
        for book in fitting_books(13, 60):
            before = (book.cases, book.sayings, book.text)
            again = Book.read(book.text)
            for function in ONE_LOT:
                self.assertEqual(function(book, book.cases[1:]), function(again, again.cases[1:]))
            for function in TWO_LOTS:
                told = function(book, book.cases[1:], book.cases[:-1])
                self.assertEqual(told, function(again, again.cases[1:], again.cases[:-1]))
            self.assertEqual((book.cases, book.sayings, book.text), before)

    def test_fractions_are_in_lowest_terms(self):
        for book in fitting_books(14, 150):
            for lot in lots(book.cases):
                for told in (least_odds(book, lot)[0], greatest_odds(book, lot)[0], least_times(book, lot, book.cases)):
                    self.assertEqual(told, pair(Fraction(*told)))
                    self.assertEqual([type(number) for number in told], [int, int])


if __name__ == "__main__":
    unittest.main()
