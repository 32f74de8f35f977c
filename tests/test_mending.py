import random
import unittest
from itertools import combinations

from likelybook.books import Book
from likelybook.errors import InvalidSaying, NotABook, TooMany
from likelybook.fitting import agrees
from likelybook.mending import may_say, needless, open_pairs, strikes
from likelybook.sure import sure
from tests import oracle
from tests.support import (
    Raising,
    all_sayings,
    holds,
    lots,
    odd_values,
    some_books,
    some_odds,
    some_saying,
    wrong_sayings,
)

RAIN = Book("abc", (("more", "a", "bc"),))
BAD = RAIN.with_saying(("least", "b", "a"))
NEVER = ("more", "a", "a")
TWELVE = tuple([("times", "a", "bc", 2 + turn % 8) for turn in range(12)])


def strikes_by_trying(book):
    """All lots of as few sayings as can be, by trying all of a size, found by the corners."""
    for size in range(len(book) + 1):
        found = []
        for struck in combinations(range(len(book)), size):
            left = tuple([saying for index, saying in enumerate(book.sayings) if index not in struck])
            if oracle.some_fit(book.cases, left):
                found.append(struck)
        if found:
            return tuple(found)
    return None


def clashing_books(seed, many, size):
    """Books of sayings, each of which holds in one of two odds, so that several are to be struck."""
    rng = random.Random(seed)
    books = []
    for turn in range(many):
        cases = "abcdef"[:2 + turn % 5]
        both = [some_odds(rng, len(cases)) for _ in range(2)]
        sayings = []
        while len(sayings) < size:
            saying = some_saying(rng, cases)
            if holds(cases, saying, rng.choice(both)):
                sayings.append(saying)
        books.append(Book(cases, tuple(sayings)))
    return books


class Striking(unittest.TestCase):
    def check(self, wanted, cases, *sayings):
        book = Book(cases, sayings)
        with self.subTest(book.text):
            self.assertEqual(strikes(book), wanted)
            self.assertEqual(strikes(book=book), wanted)

    def test_nothing_to_strike(self):
        self.check(((),), "ab")
        self.check(((),), "abcdef", *[("least", "a", "b")] * 12)
        self.check(((),), "abc", ("more", "a", "b"), ("times", "b", "c", 9), ("same", "c", ""))

    def test_one_to_strike(self):
        self.check(((0,),), "ab", ("more", "", "a"))
        self.check(((1,),), "ab", ("more", "a", "b"), ("more", "b", "b"))
        self.check(((0,), (1,), (2,)), "abc", ("more", "a", "b"), ("least", "b", "c"), ("least", "c", "a"))
        self.check(((2,),), "ab", ("more", "a", "b"), ("least", "a", "b"), ("more", "b", "a"), ("least", "a", ""))

    def test_several_to_strike(self):
        self.check(((0, 2), (0, 3), (1, 2), (1, 3)), "abcd", ("more", "a", "b"), ("more", "b", "a"),
                   ("more", "c", "d"), ("more", "d", "c"))
        self.check(((0, 1), (0, 2), (1, 2)), "abc", ("more", "a", "bc"), ("more", "b", "ac"), ("more", "c", "ab"))
        self.check(((3, 4),), "ab", ("more", "a", ""), ("more", "a", "b"), ("times", "a", "b", 2),
                   ("same", "a", "b"), ("more", "b", "a"))
        self.check(((0, 1), (2, 3)), "ab", ("more", "a", "b"), ("times", "a", "b", 2), ("more", "b", "a"),
                   ("times", "b", "a", 9))

    def test_all_to_strike(self):
        for size in range(1, 13):
            self.check((tuple(range(size)),), "abc", *[NEVER] * size)

    def test_twelve_sayings_of_which_several_are_to_be_struck(self):
        six = [("more", "a", "b"), ("more", "b", "a")] * 6
        self.check((tuple(range(0, 12, 2)), tuple(range(1, 12, 2))), "abcdef", *six)
        pairs = [("more", one, other) for one, other in ("ab", "ba", "cd", "dc", "ef", "fe")] * 2
        told = strikes(Book("abcdef", tuple(pairs)))
        self.assertEqual((len(told), {len(struck) for struck in told}), (8, {6}))
        self.assertEqual(told[0], (0, 2, 4, 6, 8, 10))
        self.assertEqual(list(told), sorted(told))
        ring = [("more", one, other) for one, other in zip("abcdef", "bcdefa")] * 2
        self.check(tuple([(at, at + 6) for at in range(6)]), "abcdef", *ring)
        mixed = [NEVER, ("least", "a", "b"), NEVER, ("least", "b", "c"), NEVER, ("more", "c", "a")] * 2
        wanted = ((0, 1, 2, 4, 6, 7, 8, 10), (0, 2, 3, 4, 6, 8, 9, 10), (0, 2, 4, 5, 6, 8, 10, 11))
        self.check(wanted, "abc", *mixed)

    def test_against_trying(self):
        sizes = {}
        for book in some_books(41, 150) + clashing_books(42, 120, 6) + clashing_books(43, 25, 12):
            if len(book.cases) < 6 or len(book) < 10:
                wanted = strikes_by_trying(book)
                with self.subTest(book.text):
                    self.assertEqual(strikes(book), wanted)
                sizes[len(wanted[0])] = sizes.get(len(wanted[0]), 0) + 1
        self.assertTrue({0, 1, 2, 3, 4} <= set(sizes))

    def test_books_of_twelve_sayings(self):
        sizes = set()
        for book in clashing_books(44, 100, 12):
            told = strikes(book)
            self.assertEqual(list(told), sorted(set(told)))
            size = len(told[0])
            sizes.add(size)
            for struck in told:
                self.assertEqual((len(struck), list(struck)), (size, sorted(set(struck))))
                left = tuple([saying for index, saying in enumerate(book.sayings) if index not in struck])
                self.assertTrue(agrees(Book(book.cases, left)))
        self.assertTrue({0, 1, 2, 3} <= sizes)


class MaySay(Raising):
    def test_a_book_without_odds(self):
        self.assertIs(may_say(BAD, ("least", "a", "")), False)
        self.assertIs(may_say(Book("ab", (NEVER,)), ("same", "a", "a")), False)

    def test_by_name(self):
        self.assertIs(may_say(saying=("more", "b", "c"), book=RAIN), True)
        self.assertIs(may_say(saying=("same", "a", "bc"), book=RAIN), False)

    def test_each_saying(self):
        for book in (RAIN, BAD, Book("ab"), Book("ab", (("times", "a", "b", 3), ("more", "b", "")))):
            for saying in all_sayings(book.cases, (2, 3, 4, 9)):
                wanted = oracle.some_fit(book.cases, book.sayings + (saying,))
                self.assertIs(may_say(book, saying), wanted, (book.text, saying))

    def test_books_of_twelve_sayings(self):
        book = Book("abc", TWELVE)
        self.assertIs(may_say(book, ("times", "a", "b", 9)), True)
        self.assertIs(may_say(book, ("more", "bc", "a")), False)
        self.assertIs(may_say(book, ("more", "b", "c")), True)
        self.assertIs(may_say(book, NEVER), False)

    def test_against_the_corners(self):
        rng = random.Random(45)
        seen = {True: 0, False: 0}
        for book in some_books(46, 400):
            saying = some_saying(rng, book.cases)
            wanted = oracle.some_fit(book.cases, book.sayings + (saying,))
            self.assertIs(may_say(book, saying), wanted, (book.text, saying))
            seen[wanted] += len(book) == 12
        self.assertGreater(min(seen.values()), 5)

    def test_errors(self):
        for value in odd_values():
            self.raised(NotABook, value, may_say, value, None)
            self.raised(NotABook, value, may_say, saying=("more", "a", "b"), book=value)
        for saying in wrong_sayings():
            with self.subTest(saying):
                for book in (RAIN, BAD, Book("abc", TWELVE)):
                    self.raised(InvalidSaying, saying, may_say, book, saying)
                    self.raised(InvalidSaying, saying, may_say, saying=saying, book=book)
        self.raised(InvalidSaying, NEVER, may_say, Book("bc"), NEVER)


class Needless(Raising):
    def check(self, wanted, cases, *sayings):
        book = Book(cases, sayings)
        with self.subTest(book.text):
            self.assertEqual(needless(book), wanted)
            self.assertEqual(needless(book=book), wanted)

    def test_each_word(self):
        self.check((), "ab")
        self.check((), "ab", ("more", "a", "b"))
        self.check((0,), "ab", ("least", "a", ""))
        self.check((0,), "ab", ("more", "ab", ""))
        self.check((0,), "ab", ("same", "a", "a"))
        self.check((), "ab", ("same", "a", "b"))
        self.check((0,), "ab", ("times", "a", "", 9))
        self.check((0,), "ab", ("times", "", "", 2))
        self.check((), "ab", ("times", "ab", "a", 2))
        self.check((), "abc", ("times", "abc", "a", 2), ("more", "b", "c"))
        self.check((1,), "abc", ("same", "a", "bc"), ("times", "abc", "a", 2))
        self.check((1,), "abc", ("times", "a", "b", 3), ("times", "a", "b", 2))

    def test_each_is_left_out_alone(self):
        self.check((0, 1), "ab", ("more", "a", "b"), ("more", "a", "b"))
        self.check((1,), "ab", ("more", "a", "b"), ("least", "a", "b"))
        self.check((0, 1, 2), "ab", ("same", "a", "b"), ("same", "b", "a"), ("least", "a", "b"))
        self.check((2,), "abc", ("least", "a", "b"), ("least", "b", "c"), ("least", "a", "c"))
        self.check((2,), "abc", ("more", "a", "b"), ("more", "b", "c"), ("more", "a", "c"))
        self.check((), "abc", ("least", "a", "b"), ("least", "b", "c"), ("least", "c", "a"))

    def test_where_a_strict_saying_decides(self):
        self.check((), "abc", ("least", "a", "b"), ("least", "b", "c"), ("more", "a", "c"))
        self.check((2,), "abc", ("more", "a", "b"), ("least", "b", "c"), ("more", "a", "c"))
        self.check((1,), "ab", ("times", "a", "b", 2), ("more", "a", ""))
        self.check((), "ab", ("times", "a", "b", 2), ("more", "b", ""))
        self.check((1,), "ab", ("times", "a", "b", 2), ("least", "a", "b"))
        self.check((), "abc", ("times", "a", "b", 2), ("more", "a", "b"))
        self.check((1,), "ab", ("times", "a", "b", 2), ("more", "a", "b"))

    def test_against_the_corners(self):
        seen = {}
        for book in some_books(47, 700):
            if agrees(book):
                wanted = []
                for index, saying in enumerate(book.sayings):
                    others = book.sayings[:index] + book.sayings[index + 1:]
                    if oracle.always_holds(book.cases, others, saying):
                        wanted.append(index)
                    key = (saying[0], index in wanted)
                    seen[key] = seen.get(key, 0) + 1
                with self.subTest(book.text):
                    self.assertEqual(needless(book), tuple(wanted))
        self.assertEqual(len(seen), 8)
        self.assertGreater(min(seen.values()), 10)

    def test_errors(self):
        for value in odd_values():
            self.raised(NotABook, value, needless, value)
            self.raised(NotABook, value, needless, book=value)
        for book in [BAD] + [book for book in some_books(48, 80) if not agrees(book)]:
            self.no_odds(book, needless, book)
            self.no_odds(book, needless, book=book)


class OpenPairs(Raising):
    def check(self, wanted, cases, *sayings):
        book = Book(cases, sayings)
        with self.subTest(book.text):
            self.assertEqual(open_pairs(book), wanted)
            self.assertEqual(open_pairs(book=book), wanted)

    def test_a_book_without_sayings(self):
        self.check((("a", "b"),), "ab")
        self.check((("a", "b"), ("a", "bc"), ("a", "c"), ("ab", "c"), ("ac", "b"), ("b", "c")), "abc")
        told = open_pairs(Book("abcde"))
        self.assertEqual((len(told), told[0], told[-1]), (90, ("a", "b"), ("d", "e")))

    def test_what_is_sure_is_left_out(self):
        self.check((), "ab", ("least", "a", "b"))
        self.check((), "ab", ("same", "a", "b"))
        self.check((("b", "c"),), "abc", ("least", "a", "bc"))
        self.check((("a", "bc"), ("b", "c")), "abc", ("more", "a", "b"), ("more", "a", "c"))
        self.check((("a", "bc"), ("a", "c"), ("b", "c")), "abc", ("more", "a", "b"), ("least", "ab", "c"))
        self.check((), "abc", ("same", "a", "b"), ("same", "b", "c"))

    def test_each_pair_is_open(self):
        for book in some_books(49, 160):
            if len(book.cases) < 6 and agrees(book):
                told = lots(book.cases)
                pairs = [(one, other) for one in told for other in told if one and one < other]
                pairs = [(one, other) for one, other in pairs if not set(one) & set(other)]
                wanted = [two for two in sorted(pairs) if oracle.word(book.cases, book.sayings, *two) == "open"]
                with self.subTest(book.text):
                    self.assertEqual(open_pairs(book), tuple(wanted))
                for left, right in wanted[:3]:
                    self.assertEqual(sure(book, left, right), "open")

    def test_errors(self):
        for value in odd_values():
            self.raised(NotABook, value, open_pairs, value)
            self.raised(NotABook, value, open_pairs, book=value)
        for book in (Book("abcdef"), Book("uvwxyz", (("more", "u", "v"),)), Book("abcdef", (NEVER,))):
            self.raised(TooMany, 5, open_pairs, book)
            self.raised(TooMany, 5, open_pairs, book=book)
        for book in (BAD, Book("abcde", (NEVER,)), Book("ab", (("same", "ab", ""),))):
            self.no_odds(book, open_pairs, book)
            self.no_odds(book, open_pairs, book=book)


class Errors(Raising):
    def test_strikes_of_no_book(self):
        for value in odd_values() + ["cases ab", ("ab", ())]:
            self.raised(NotABook, value, strikes, value)
            self.raised(NotABook, value, strikes, book=value)


class Interface(unittest.TestCase):
    def test_each_function_is_defined_in_its_file(self):
        for function in (strikes, may_say, needless, open_pairs):
            self.assertEqual(function.__module__, "likelybook.mending")

    def test_books_stay_as_they_are_and_equal_books_tell_equal_things(self):
        for book in some_books(50, 60):
            before = (book.cases, book.sayings, book.text)
            again = Book.read(book.text)
            self.assertEqual(strikes(book), strikes(again))
            self.assertEqual(may_say(book, ("more", "", "")), may_say(again, ("more", "", "")))
            if agrees(book):
                self.assertEqual(needless(book), needless(again))
                if len(book.cases) < 6:
                    self.assertEqual(open_pairs(book), open_pairs(again))
            self.assertEqual((book.cases, book.sayings, book.text), before)


if __name__ == "__main__":
    unittest.main()
