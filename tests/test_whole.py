import random
import unittest
from fractions import Fraction
from math import comb

from likelybook.books import Book
from likelybook.errors import InvalidNumber, NotABook
from likelybook.fitting import failing
from likelybook.whole import how_many, weights
from tests.support import EqualToAll, Raising, lean, odd_values, pair, some_books, some_odds, some_saying, holds

RAIN = Book("abc", (("more", "a", "bc"),))
BAD = RAIN.with_saying(("least", "b", "a"))
TWO = Book.read("cases ab\ntimes a b 3\nmore b -")


def splits(total, size):
    """All tuples of so many integers from 0 on with this sum, the greatest one first."""
    if size == 1:
        return [(total,)]
    return [(first, *rest) for first in range(total, -1, -1) for rest in splits(total - first, size - 1)]


def fit(book, told):
    """Whether weights fit, by the leans of the sayings alone."""
    for saying in book.sayings:
        surplus = sum([lean(saying, case) * weight for case, weight in zip(book.cases, told)])
        if surplus < 0 or (surplus == 0 and saying[0] == "more") or (surplus != 0 and saying[0] == "same"):
            return False
    return True


def all_fitting(book, total):
    return [told for told in splits(total, len(book.cases)) if fit(book, told)]


def first_fitting(book, most):
    for total in range(1, most + 1):
        found = all_fitting(book, total)
        if found:
            return found[0]
    return None


def books_with_odds(seed, many, cases):
    """Books about these cases, about one to twelve sayings each, most of which some odds fit."""
    rng = random.Random(seed)
    books = []
    for _ in range(many):
        odds = some_odds(rng, len(cases))
        size = rng.randint(1, 12)
        sayings = []
        while len(sayings) < size:
            saying = some_saying(rng, cases)
            if holds(cases, saying, odds) or rng.random() < 0.02:
                sayings.append(saying)
        books.append(Book(cases, tuple(sayings)))
    return books


class Weights(unittest.TestCase):
    def check(self, wanted, cases, *sayings):
        book = Book(cases, sayings)
        with self.subTest(book.text):
            self.assertEqual(weights(book, 30), wanted)
            self.assertEqual(weights(most=30, book=book), wanted)
            if wanted:
                self.assertEqual(weights(book, sum(wanted)), wanted)
                if sum(wanted) > 1:
                    self.assertIsNone(weights(book, sum(wanted) - 1))

    def test_the_greatest_of_the_least_sum(self):
        self.check((1, 0, 0), "abc")
        self.check((1, 0, 0, 0, 0, 0), "uvwxyz")
        self.check((0, 1, 0), "abc", ("more", "b", "a"))
        self.check((1, 0, 0), "abc", ("more", "ab", ""))
        self.check((1, 1, 0), "abc", ("more", "bc", ""), ("more", "a", ""))
        self.check((1, 0, 1), "abc", ("more", "c", "b"), ("more", "a", ""))
        self.check((2, 1, 0), "abc", ("more", "a", "b"), ("more", "b", "c"))
        self.check((3, 2, 1), "abc", ("more", "a", "b"), ("more", "b", "c"), ("more", "c", ""))
        self.check((1, 1, 1), "abc", ("same", "a", "b"), ("same", "b", "c"))
        self.check((2, 2, 1), "abc", ("same", "a", "b"), ("more", "b", "c"), ("more", "c", ""))
        self.check((1, 1, 2), "abc", ("same", "c", "ab"), ("more", "a", ""), ("more", "b", ""))
        self.check((1, 0, 1), "abc", ("same", "c", "ab"))

    def test_just_30_and_just_above(self):
        self.check((18, 9, 1, 1, 1), "abcde", ("times", "a", "b", 2), ("times", "b", "c", 9), ("same", "c", "d"),
                   ("same", "d", "e"), ("more", "e", ""))
        # Nine times nine and so on: the least sum is 91.
        self.check(None, "abc", ("times", "a", "b", 9), ("times", "b", "c", 9), ("more", "c", ""))
        self.check((9, 1), "ab", ("times", "a", "b", 9), ("more", "b", ""))
        steps = [("more", left, right) for left, right in zip("abcde", "bcdef")]
        self.check((6, 5, 4, 3, 2, 1), "abcdef", *steps, ("more", "f", ""))
        steps = [("more", "a", "bcdef"), ("more", "b", "cdef"), ("more", "c", "def"), ("more", "d", "ef")]
        self.check((8, 4, 2, 1, 0, 0), "abcdef", *steps)
        # These would be 16, 8, 4, 2, 1 and 0, with the sum 31.
        self.check(None, "abcdef", *steps, ("more", "e", "f"))

    def test_none_below_the_least_sum(self):
        for most in range(1, 31):
            self.assertEqual(weights(TWO, most), (3, 1) if most >= 4 else None)
            self.assertEqual(weights(RAIN, most), (1, 0, 0))
            self.assertIsNone(weights(BAD, most))

    def test_no_odds_and_weights_of_sum_0(self):
        self.check(None, "ab", ("more", "", ""))
        self.check(None, "ab", ("same", "ab", ""))
        self.check(None, "abcdef", ("more", "e", "f"), ("more", "f", "e"))

    def test_against_all_splits(self):
        seen = set()
        for book in some_books(21, 300) + books_with_odds(22, 150, "abcd"):
            most = {2: 30, 3: 30, 4: 14, 5: 10, 6: 8}[len(book.cases)]
            with self.subTest(book.text):
                wanted = first_fitting(book, most)
                self.assertEqual(weights(book, most), wanted)
                seen.add((len(book.cases), None if wanted is None else min(sum(wanted), 5)))
        self.assertTrue({(size, total) for size in (2, 3, 4, 5, 6) for total in (None, 1)} <= seen)
        self.assertTrue({(4, total) for total in (2, 3, 4, 5)} <= seen)

    def test_they_fit_as_odds(self):
        for book in books_with_odds(23, 150, "abcdef"):
            told = weights(book, 30)
            if told is not None:
                self.assertEqual([type(number) for number in told], [int] * 6)
                self.assertIsNone(failing(book, tuple([pair(Fraction(number, sum(told))) for number in told])))


class HowMany(unittest.TestCase):
    def test_without_sayings_each_split_fits(self):
        for cases in ("ab", "abc", "abcd", "abcde", "abcdef"):
            for total in (1, 2, 7, 30):
                with self.subTest(cases, total=total):
                    self.assertEqual(how_many(Book(cases), total), comb(total + len(cases) - 1, len(cases) - 1))

    def test_six_cases_and_few_sayings_at_30(self):
        ways = comb(35, 5)
        self.assertEqual(how_many(Book("abcdef", (("least", "a", ""),)), 30), ways)
        more, same = Book("abcdef", (("more", "a", "b"),)), Book("abcdef", (("same", "a", "b"),))
        self.assertEqual(2 * how_many(more, 30) + how_many(same, 30), ways)
        self.assertEqual(how_many(same, 30), sum([comb(30 - 2 * one + 3, 3) for one in range(16)]))
        halves = [Book("abcdef", ((word, "abc", "def"),)) for word in ("more", "same")]
        self.assertEqual(how_many(halves[1], 30), comb(17, 2) ** 2)
        self.assertEqual(2 * how_many(halves[0], 30), ways - comb(17, 2) ** 2)
        self.assertEqual(how_many(Book("abcdef", (("more", "abc", "def"),)), 30), how_many(halves[0], 30))
        self.assertEqual(weights(Book("abcdef", (("same", "abc", "def"),)), 30), (1, 0, 0, 1, 0, 0))

    def test_sums_that_have_some_and_sums_that_have_none(self):
        book = Book("ab", (("same", "a", "b"),))
        self.assertEqual([how_many(book, total) for total in range(1, 31)], [0, 1] * 15)
        self.assertEqual([how_many(TWO, total) for total in (1, 3, 4, 7, 8, 12, 30)], [0, 0, 1, 1, 2, 3, 7])
        self.assertEqual([how_many(BAD, total) for total in (1, 2, 30)], [0, 0, 0])
        self.assertEqual(how_many(total=3, book=RAIN), 3)
        thirds = Book("abc", (("same", "a", "b"), ("same", "b", "c")))
        self.assertEqual([how_many(thirds, total) for total in (1, 2, 3, 29, 30)], [0, 0, 1, 0, 1])

    def test_at_1(self):
        for book in some_books(24, 300):
            self.assertEqual(how_many(book, 1), len(all_fitting(book, 1)), book.text)

    def test_against_all_splits(self):
        found = {}
        for book in some_books(25, 300) + books_with_odds(26, 100, "abcd"):
            for total in {2: (9, 30), 3: (8, 30), 4: (7, 12), 5: (6, 9), 6: (5, 7)}[len(book.cases)]:
                with self.subTest(book.text, total=total):
                    wanted = len(all_fitting(book, total))
                    self.assertEqual(how_many(book, total), wanted)
                    self.assertIs(type(how_many(book, total)), int)
                found[len(book.cases), wanted > 1] = len(book)
        self.assertEqual(len(found), 10)

    def test_twelve_sayings_at_30(self):
        for cases, many in (("abc", 30), ("abcd", 8)):
            rng = random.Random(27)
            for _ in range(many):
                odds = some_odds(rng, len(cases))
                told = [some_saying(rng, cases) for _ in range(400)]
                book = Book(cases, tuple([saying for saying in told if holds(cases, saying, odds)][:12]))
                self.assertEqual(len(book), 12)
                self.assertEqual(how_many(book, 30), len(all_fitting(book, 30)), book.text)

    def test_one_of_three_sayings_holds_in_all_that_fit(self):
        for book in books_with_odds(30, 25, "abcdef"):
            book = book if len(book) < 12 else book.without(0)
            for left, right in (("ab", "cd"), ("f", "abe")):
                three = (("more", left, right), ("same", left, right), ("more", right, left))
                parts = [how_many(book.with_saying(saying), 30) for saying in three]
                self.assertEqual(how_many(book, 30), sum(parts), book.text)

    def test_there_are_some_just_from_the_least_sum_on(self):
        for book in books_with_odds(28, 60, "abcde"):
            told = weights(book, 12)
            sums = [total for total in range(1, 13) if how_many(book, total)]
            self.assertEqual(sums[0] if sums else None, sum(told) if told else None)


class Errors(Raising):
    def test_not_a_book(self):
        for value in odd_values() + ["cases ab", ("ab", ())]:
            for number in (5, 0, None):
                with self.subTest(value):
                    self.raised(NotABook, value, weights, value, number)
                    self.raised(NotABook, value, weights, most=number, book=value)
                    self.raised(NotABook, value, how_many, value, number)
                    self.raised(NotABook, value, how_many, total=number, book=value)

    def test_wrong_numbers(self):
        wrong = [value for value in odd_values() if type(value) is not int or not 1 <= value <= 30]
        wrong += [0, -1, 31, 32, 100, -30, 10 ** 39, -(10 ** 39)]
        wrong += ["5", "30", (5,), [5], b"5", True, False, None, EqualToAll()]
        for value in wrong:
            with self.subTest(value):
                for book in (RAIN, BAD, Book("ab")):
                    self.raised(InvalidNumber, value, weights, book, value)
                    self.raised(InvalidNumber, value, weights, most=value, book=book)
                    self.raised(InvalidNumber, value, how_many, book, value)
                    self.raised(InvalidNumber, value, how_many, total=value, book=book)

    def test_each_number_from_1_to_30(self):
        for number in range(1, 31):
            self.assertEqual(weights(Book("ab"), number), (1, 0))
            self.assertEqual(how_many(Book("ab"), number), number + 1)


class Interface(unittest.TestCase):
    def test_each_function_is_defined_in_its_file(self):
        for function in (weights, how_many):
            self.assertEqual(function.__module__, "likelybook.whole")

    def test_books_stay_as_they_are_and_equal_books_tell_equal_things(self):
        for book in some_books(29, 60):
            before = (book.cases, book.sayings, book.text)
            again = Book.read(book.text)
            self.assertEqual(weights(book, 9), weights(again, 9))
            self.assertEqual(how_many(book, 6), how_many(again, 6))
            self.assertEqual((book.cases, book.sayings, book.text), before)


if __name__ == "__main__":
    unittest.main()
