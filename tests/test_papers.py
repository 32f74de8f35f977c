import random
import unittest
from fractions import Fraction

from likelybook import papers
from likelybook.books import Book
from likelybook.checker import accepts
from likelybook.errors import InvalidCases, InvalidLot, InvalidOrder, InvalidSaying, NoOdds, NotABook
from likelybook.fitting import agrees, failing, is_balance
from likelybook.orders import giving, is_plain, order
from likelybook.papers import paper_of_book, paper_of_least, paper_of_order, paper_of_sure
from likelybook.sure import least_odds, sure
from tests import judge, oracle
from tests.support import WRONG_CASES, WRONG_LOTS, EqualToAll, Raising, lots, odd_values, some_books, some_odds
from tests.test_orders import AGAINST, FLAT, UP, plain_order, some_orders

RAIN = Book("abc", (("more", "a", "bc"),))
BAD = RAIN.with_saying(("least", "b", "a"))
TWO = Book.read("cases ab\ntimes a b 3\nmore b -")
WRONG_WORDS = ["same", "times", "less", "most", "open", "More", "more ", "", "moreleast", ("more",), b"more", ["least"]]


class Papers(Raising):
    def check(self, claim, made):
        """What was made is a pair of this claim and a paper that both checkers accept."""
        self.assertIs(type(made), tuple)
        self.assertEqual(len(made), 2)
        self.assertEqual(made[0], claim)
        self.assertIs(type(made[0]), tuple)
        self.assertIs(type(made[1]), tuple)
        self.assertIs(accepts(made[0], made[1]), True)
        self.assertIs(judge.accepted(made[0], made[1]), True)


class OfBooks(Papers):
    def test_some_books(self):
        self.check(("odds", "cases abc\nmore a bc"), paper_of_book(RAIN))
        self.check(("none", "cases abc\nmore a bc\nleast b a"), paper_of_book(BAD))
        self.check(("odds", "cases az"), paper_of_book(book=Book("az")))
        self.check(("none", "cases az\nmore - -"), paper_of_book(Book("az", (("more", "", ""),))))

    def test_books_of_all_sizes(self):
        seen = {}
        for book in some_books(41, 300):
            word = "odds" if oracle.some_fit(book.cases, book.sayings) else "none"
            made = paper_of_book(book)
            self.check((word, book.text), made)
            self.assertEqual(made, paper_of_book(Book.read(book.text)))
            if word == "odds":
                self.assertIsNone(failing(book, made[1]))
            else:
                self.assertIs(is_balance(book, made[1]), True)
            seen[word, len(book.cases)] = True
            seen[word, "sayings", len(book)] = True
        for word in ("odds", "none"):
            for size in range(2, 7):
                self.assertIn((word, size), seen)
            self.assertIn((word, "sayings", 12), seen)
        self.assertIn(("odds", "sayings", 0), seen)

    def test_wrong_books(self):
        for value in odd_values() + [RAIN.text, Book]:
            self.raised(NotABook, value, paper_of_book, value)
            self.raised(NotABook, value, paper_of_book, book=value)


class OfWhatIsSure(Papers):
    def test_some_lots(self):
        for word, left, right in (
            ("more", "a", "c"), ("least", "a", "bc"), ("least", "ab", "a"), ("more", "a", ""), ("least", "b", "b"),
        ):
            claim = ("sure", RAIN.text, word, left, right)
            self.check(claim, paper_of_sure(RAIN, word, left, right))
            self.check(claim, paper_of_sure(right=right, left=left, word=word, book=RAIN))
        for word, left, right in (
            ("more", "ab", "a"), ("least", "b", "c"), ("more", "b", "a"), ("more", "a", "a"), ("least", "", "a"),
        ):
            self.assertIsNone(paper_of_sure(RAIN, word, left, right))

    def test_a_book_that_no_odds_fit(self):
        for word in ("more", "least"):
            for left, right in (("a", "b"), ("b", "a"), ("", "abc"), ("c", "c"), ("", "")):
                self.check(("sure", BAD.text, word, left, right), paper_of_sure(BAD, word, left, right))

    def test_books_of_all_sizes(self):
        rng = random.Random(42)
        seen = {}
        for book in some_books(43, 250):
            fits = oracle.some_fit(book.cases, book.sayings)
            for _ in range(4):
                left, right = [rng.choice(lots(book.cases)) for _ in range(2)]
                for word in ("more", "least"):
                    made = paper_of_sure(book, word, left, right)
                    holds = not fits or oracle.always_holds(book.cases, book.sayings, (word, left, right))
                    self.assertEqual(made is not None, holds)
                    if holds:
                        self.check(("sure", book.text, word, left, right), made)
                        self.assertEqual(len(made[1]), len(book) + 1)
                    told = (fits, holds, len(book) == 12)
                    seen[told] = seen.get(told, 0) + 1
        self.assertEqual(len(seen), 6)
        self.assertGreater(min(seen.values()), 20)

    def test_it_tells_what_sure_tells(self):
        for book in some_books(44, 80):
            if agrees(book):
                for left in lots(book.cases)[:6]:
                    for right in lots(book.cases)[-6:]:
                        word = sure(book, left, right)
                        self.assertEqual(paper_of_sure(book, "more", left, right) is not None, word == "more")
                        made = paper_of_sure(book, "least", left, right)
                        self.assertEqual(made is not None, word in ("more", "least", "same"))

    def test_wrong_words(self):
        for book in (RAIN, BAD):
            for word in WRONG_WORDS + odd_values():
                for left in ("a", "d", None):
                    self.raised(InvalidSaying, word, paper_of_sure, book, word, left, "b")
                    self.raised(InvalidSaying, word, paper_of_sure, right=left, left="a", word=word, book=book)

    def test_wrong_lots(self):
        for book in (RAIN, BAD):
            for lot in WRONG_LOTS:
                for word in ("more", "least"):
                    self.raised(InvalidLot, lot, paper_of_sure, book, word, lot, "b")
                    self.raised(InvalidLot, lot, paper_of_sure, book, word, "b", lot)
                    self.raised(InvalidLot, lot, paper_of_sure, book, word, lot, "xyz")

    def test_wrong_books(self):
        for value in odd_values() + [RAIN.text]:
            self.raised(NotABook, value, paper_of_sure, value, "more", "a", "b")
            self.raised(NotABook, value, paper_of_sure, value, "same", 1, None)


class OfLeastOdds(Papers):
    def test_some_lots(self):
        for book, lot, least in (
            (RAIN, "a", (1, 2)), (RAIN, "b", (0, 1)), (RAIN, "", (0, 1)), (RAIN, "abc", (1, 1)), (TWO, "a", (3, 4)),
            (TWO, "b", (0, 1)), (Book("ab", (("same", "a", "b"),)), "a", (1, 2)), (Book("az"), "az", (1, 1)),
            (Book("ab", (("same", "b", "a"),)), "a", (1, 2)), (Book("ab", (("times", "a", "b", 9),)), "a", (9, 10)),
        ):
            self.check(("from", book.text, lot, least), paper_of_least(book, lot))
            self.check(("from", book.text, lot, least), paper_of_least(lot=lot, book=book))

    def test_books_of_all_sizes(self):
        seen = {}
        for book in some_books(45, 250):
            if not oracle.some_fit(book.cases, book.sayings):
                self.no_odds(book, paper_of_least, book, "")
                self.no_odds(book, paper_of_least, book=book, lot=book.cases)
                continue
            seen[len(book.cases)] = seen.get(len(book.cases), 0) + 1
            for lot in lots(book.cases)[::3]:
                least, _ = oracle.bound(book.cases, book.sayings, lot, min)
                made = paper_of_least(book, lot)
                self.check(("from", book.text, lot, least), made)
                self.assertEqual(made[0][3], least_odds(book, lot)[0])
                self.assertEqual(len(made[1]), len(book))
                above = Fraction(*least) + Fraction(1, 10 ** 12)
                self.assertIs(accepts(made[0][:3] + ((above.numerator, above.denominator),), made[1]), False)
        self.assertEqual(sorted(seen), [2, 3, 4, 5, 6])
        self.assertGreater(min(seen.values()), 10)

    def test_wrong_arguments_in_their_order(self):
        for value in odd_values() + [RAIN.text]:
            self.raised(NotABook, value, paper_of_least, value, "a")
            self.raised(NotABook, value, paper_of_least, value, None)
        for book in (RAIN, BAD):
            for lot in WRONG_LOTS:
                self.raised(InvalidLot, lot, paper_of_least, book, lot)
                self.raised(InvalidLot, lot, paper_of_least, book=book, lot=lot)
        self.assertEqual(self.error(NoOdds, paper_of_least, BAD, "a").balance, (1, 1))


class OfOrders(Papers):
    def test_some_orders(self):
        for told in (FLAT, UP, (("", "b"), ("a", "ab")), (("", "a"), ("ab", "b"))):
            self.check(("order", "ab", told), paper_of_order("ab", told))
            self.check(("order", "ab", told), paper_of_order(order=told, cases="ab"))
        for told in ((("",), ("b",), ("ab",), ("a",)), UP[::-1], (("", "a", "ab", "b"),)):
            self.assertIsNone(paper_of_order("ab", told))

    def test_orders_of_all_sizes(self):
        rng = random.Random(46)
        for cases in ("ab", "xz", "abc", "mnop", "abcde", "abcdef", "uvwxyz"):
            for _ in range(5):
                told = order(cases, some_odds(rng, len(cases)))
                made = paper_of_order(cases, told)
                self.check(("order", cases, told), made)
                self.assertEqual(order(cases, made[1]), told)

    def test_orders_that_odds_give_and_others(self):
        seen = {}
        for cases, told in some_orders(47, 150):
            made = paper_of_order(cases, told)
            self.assertEqual(made is None, giving(cases, told) is None)
            if made is not None:
                self.check(("order", cases, told), made)
            seen[len(cases), made is None] = True
        self.assertEqual(len(seen), 10)

    def test_plain_orders_that_no_odds_give(self):
        for cases in ("abcde", "abcdef"):
            told = plain_order(cases)
            self.assertIs(is_plain(cases, told), True)
            self.assertIsNone(paper_of_order(cases, told))
            turned = plain_order(cases, AGAINST[:1])
            self.check(("order", cases, turned), paper_of_order(cases, turned))

    def test_wrong_arguments_in_their_order(self):
        for value in WRONG_CASES + odd_values():
            self.raised(InvalidCases, value, paper_of_order, value, FLAT)
            self.raised(InvalidCases, value, paper_of_order, order=None, cases=value)
        wrong = odd_values() + [
            list(FLAT), FLAT[1:], FLAT + FLAT, (("",), ("b", "a"), ("ab",)), FLAT + ((),), ("", "a", "b", "ab"),
            (("",), ("a",), ("b",), (EqualToAll(),)), (("",), ("a", "b")), order("abc", ((1, 3), (1, 3), (1, 3))),
        ]
        for value in wrong:
            self.raised(InvalidOrder, value, paper_of_order, "ab", value)
            self.raised(InvalidOrder, value, paper_of_order, order=value, cases="ab")


class Interface(unittest.TestCase):
    def test_each_function_is_defined_in_its_file(self):
        for function in (paper_of_book, paper_of_sure, paper_of_least, paper_of_order):
            self.assertEqual(function.__module__, "likelybook.papers")
            self.assertIs(vars(papers)[function.__name__], function)


if __name__ == "__main__":
    unittest.main()
