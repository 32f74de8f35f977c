import random
import unittest
from fractions import Fraction
from itertools import product

from likelybook import checker
from likelybook.books import Book
from likelybook.checker import accepts
from likelybook.papers import paper_of_book, paper_of_least, paper_of_order, paper_of_sure
from tests import judge, oracle
from tests.support import (
    EqualToAll,
    are_odds,
    balances,
    lots,
    nested,
    odd_values,
    pair,
    some_books,
    some_odds,
    some_saying,
)

RAIN = "cases abc\nmore a bc"
BAD = RAIN + "\nleast b a"
TWO = "cases ab\ntimes a b 3\nmore b -"
FLAT = (("",), ("a", "b"), ("ab",))
HUGE = 10 ** 5000
# Right claims of each kind with right papers, made by hand.
RIGHT = [
    (("odds", RAIN), ((2, 3), (1, 6), (1, 6))), (("odds", RAIN), ((1, 1), (0, 1), (0, 1))),
    (("odds", "cases az"), ((1, 7), (6, 7))), (("odds", TWO), ((3, 4), (1, 4))), (("odds", TWO), ((99, 100), (1, 100))),
    (("none", BAD), (1, 1)), (("none", BAD), (7, 7)), (("none", "cases ab\nleast - ab"), (1,)),
    (("none", "cases ab\nsame a ab\nmore b -"), (1, 1)), (("none", "cases ab\nsame ab a\nmore b -"), (-1, 1)),
    (("none", "cases ab\nsame ab -"), (-1,)), (("none", "cases ab\nsame a b\nmore ab a\nmore - b"), (0, 0, 2)),
    (("sure", RAIN, "more", "a", "c"), (1, 1)), (("sure", RAIN, "least", "a", "c"), (1, 1)),
    (("sure", RAIN, "least", "ab", "a"), (0, 1)), (("sure", RAIN, "more", "abc", ""), (0, 1)),
    (("sure", RAIN, "more", "a", "c"), (3, 3)), (("sure", BAD, "more", "", "abc"), (1, 1, 0)),
    (("sure", "cases ab", "least", "a", ""), (1,)), (("sure", "cases ab\nsame a b", "least", "a", "b"), (1, 1)),
    (("sure", "cases ab\nsame a b", "least", "b", "a"), (-1, 1)),
    (("from", TWO, "a", (3, 4)), ((1, 4), (0, 1))), (("from", TWO, "a", (1, 2)), ((1, 4), (0, 1))),
    (("from", TWO, "a", (1, 2)), ((1, 6), (0, 1))), (("from", RAIN, "a", (1, 2)), ((1, 2),)),
    (("from", RAIN, "a", (-5, 3)), ((0, 1),)), (("from", RAIN, "a", (0, 1)), ((0, 1),)),
    (("from", "cases ab", "ab", (1, 1)), ()), (("from", "cases ab", "", (0, 1)), ()),
    (("from", "cases ab\nleast - ab", "", (5, 2)), ((5, 2),)),
    (("from", "cases ab\nsame a b", "a", (1, 2)), ((1, 2),)), (("from", "cases ab\nsame b a", "a", (1, 2)), ((-1, 2),)),
    (("order", "ab", FLAT), ((1, 2), (1, 2))), (("order", "ab", (("",), ("b",), ("a",), ("ab",))), ((2, 3), (1, 3))),
    (("order", "ab", (("", "b"), ("a", "ab"))), ((1, 1), (0, 1))),
]
# Claims that are right, each with papers that are none for it.
WRONG_PAPERS = [
    (("odds", RAIN), [
        ((1, 2), (1, 4), (1, 4)), ((2, 3), (1, 6)), ((4, 6), (1, 6), (1, 6)), ((2, 3), (1, 6), (1, 6), (0, 1)),
        ((2, 3), (1, 6), (1, 3)), ((4, 3), (-1, 6), (-1, 6)), [(2, 3), (1, 6), (1, 6)], ([2, 3], (1, 6), (1, 6)),
        ((True, 1), (0, 1), (0, 1)), ((1, True), (0, 1), (0, 1)), ((1, 1), (False, 1), (0, 1)), (), None,
        ((1, 1), (0, 2), (0, 1)), ((-2, -3), (1, 6), (1, 6)), ((1, 3), (1, 3), (1, 3)), (1, 0, 0), 1,
    ]),
    (("odds", TWO), [((1, 1), (0, 1)), ((2, 3), (1, 3)), ((1, 4), (3, 4))]),
    (("odds", "cases ab"), [(), ((1, 1),), ((1, 1), (1, 1)), ((0, 1), (0, 1))]),
    (("none", BAD), [
        (1, 0), (0, 0), (1, 2), (0, 1), (1,), (1, 1, 0), [1, 1], (True, True), (1, True), (-1, -1), ((1, 1), (1, 1)),
        None, (), 1, (1, "1"), (1, None),
    ]),
    (("none", "cases ab\nsame ab -"), [(1,), (0,), (True,), ()]),
    (("none", "cases ab\nleast - ab"), [(0,), (-1,)]),
    (("sure", RAIN, "more", "a", "c"), [
        (1, 2), (3, 1), (1,), (0, 0), (1, 1, 0), (1, -1), (True, 1), (1, True), [1, 1], (), None, ((1, 1), (1, 1)),
    ]),
    (("sure", RAIN, "least", "ab", "a"), [(0, 0), (0,), (1,), (0, True), (0, -1)]),
    (("sure", BAD, "more", "a", "b"), [(0, 0, 1), (1, 1), (1, 1, 0, 0), (1, 0, 0)]),
    (("from", TWO, "a", (3, 4)), [
        ((1, 4),), ((0, 1), (0, 1)), ((1, 4), (0, 1), (0, 1)), [(1, 4), (0, 1)], ((2, 8), (0, 1)), ((1, 4), (0, 2)),
        (1, 0), ((1, 4), 0), None, (), ((1, 4), (False, 1)), ((1, 4), (0, True)), ((1, 5), (0, 1)), ((1, 3), (0, 1)),
        ((1, 4), [0, 1]), ((1, 4), (0, 1, 1)), ((-1, -4), (0, 1)), ((1, 4), (0, -1)),
    ]),
    (("from", RAIN, "a", (1, 2)), [((1, 3),), ((-1, 2),), (), (0,)]),
    (("from", "cases ab\nmore a b", "a", (0, 1)), [((-1, 5),)]),
    (("from", "cases ab\ntimes a b 2", "b", (-1, 1)), [((-1, 5),), ((2, 1),)]),
    (("order", "ab", FLAT), [
        ((2, 3), (1, 3)), ((1, 2),), ((1, 2), (1, 2), (0, 1)), ((2, 4), (1, 2)), [(1, 2), (1, 2)], None, (), (1, 1),
        ((1, 2), (1, 3)),
    ]),
]
# Papers, each with claims that it is none for: these are not right, not true, or want another paper.
WRONG_CLAIMS = [
    (((1, 1), (0, 1), (0, 1)), [
        ("odds", RAIN + "\n"), ("odds", "cases abc\nmore b a"), ("odds", "cases ab"), ("odds", "cases abcd"),
        ("odds", RAIN, 0), ("odds",), ("order", "abc", FLAT), ("odds", ("cases abc",)),
    ]),
    ((1, 1), [
        ("odds", BAD), ("none", RAIN), ("none", TWO), ("none", "cases ab"), ("none", BAD, 0), ("none",),
        ("sure", RAIN, "more", "c", "a"), ("sure", RAIN, "same", "a", "c"), ("sure", RAIN, "less", "a", "c"),
        ("sure", RAIN, "times", "a", "c"), ("sure", RAIN, "More", "a", "c"), ("sure", RAIN, ("more",), "a", "c"),
        ("sure", RAIN, "more", "a"), ("sure", RAIN, "more", "a", "c", 1), ("sure", RAIN, "more", "a", "d"),
        ("sure", RAIN, "more", "a", "cb"), ("sure", RAIN, "more", ("a",), "c"), ("sure", RAIN, "more", "a", "-"),
        ("sure", RAIN, "", "a", "c"), ("sure", BAD, "more", "a", "c"), ("sure", RAIN, "more", "a", None),
    ]),
    ((0, 1), [("sure", RAIN, "more", "ab", "a"), ("none", TWO), ("none", BAD), ("sure", RAIN, "least", "b", "a")]),
    (((1, 4), (0, 1)), [
        ("from", TWO, "a", (4, 5)), ("from", TWO, "a"), ("from", TWO, "a", (6, 8)), ("from", TWO, "a", [3, 4]),
        ("from", TWO, "b", (3, 4)), ("from", TWO, "c", (0, 1)), ("from", TWO, "a", 1), ("from", TWO, "a", (True, 2)),
        ("from", TWO, "a", (3, 4), 0), ("from", TWO, "a", (3, -4)), ("from", TWO, "a", (-3, -4)),
        ("from", TWO, "ba", (3, 4)), ("from", TWO, "a", (0, True)), ("from", TWO, "a", None), ("from", TWO, "a", (3,)),
    ]),
    ((), [
        ("none", "cases ab"), ("odds", "cases ab"), ("from", "cases ab", "a", (1, 10 ** 9)),
        ("from", RAIN, "a", (0, 1)), ("sure", "cases ab", "least", "a", ""), ("from", "cases ab", "ab", (2, 1)), (),
        ("order", "ab", ()),
    ]),
    (((-1, 2),), [("from", "cases ab\nleast b a", "a", (1, 2)), ("from", "cases ab\nmore b a", "a", (1, 2))]),
    (((1, 2), (1, 2)), [
        ("order", "ab", (("",), ("b", "a"), ("ab",))), ("order", "ba", FLAT), ("order", "ab", list(FLAT)),
        ("order", "ab", (("",), ("a",), ("b",), ("ab",))), ("order", "ab", FLAT + ((),)), ("order", "ab", FLAT, 0),
        ("order", "ab", (("",), ["a", "b"], ("ab",))), ("order", "cases ab", FLAT), ("order", "ab"), ("order",),
        ("order", "abc", FLAT), ("order", "ab", (("ab",), ("a", "b"), ("",))), ("order", "ab", (("",), ("a", "b"))),
        ("order", "ab", (("",), ("ab",), ("a", "b"))), ("order", "ac", FLAT), ("order", ("a", "b"), FLAT),
        ("order", "ab", (("",), ("a", "a", "b"), ("ab",))), ("order", "ab", (("",), ("a", "b"), ("ab", "ab"))),
    ]),
    (((1, 1),), [("order", "a", (("",), ("a",))), ("odds", "cases a"), ("from", RAIN, "a", (1, 2))]),
]
BENT_TEXTS = (
    RAIN + "\n", "\n" + RAIN, RAIN + " ", RAIN.upper(), "cases abc", "cases abc more a bc", "cases cba\nmore a bc", "",
    "cases abc\nmore a", "cases abc\nmore a bd", "cases abc\nmore a cb", "cases abc\ntimes a bc 1", "more a bc", "abc",
    RAIN + "\nleast - -" * 12, "cases  abc\nmore a bc", "cases abc\r\nmore a bc", RAIN + "\n\n" + RAIN,
    "cases a\nmore a -",
)


def near(value):
    """Values like this one with one thing bent, as deep as it goes."""
    if type(value) is tuple:
        yield list(value)
        yield value + (0,)
        yield value + value[-1:] if value else (None,)
        yield value[:-1] if value else ((),)
        yield (value,)
        for place, part in enumerate(value):
            yield value[:place] + value[place + 1:]
            for other in near(part):
                yield value[:place] + (other,) + value[place + 1:]
    elif type(value) is int:
        yield from (value + 1, value - 1, -value, 2 * value, bool(value), str(value), (value,), None, value + HUGE)
    elif type(value) is str:
        yield from (value + "a", value + "\n", value[:-1], value.upper() + "A", value[::-1], value.encode())
        yield from ((value,), None)


class Accepts(unittest.TestCase):
    def check(self, wanted, claim, paper):
        told = accepts(claim, paper)
        self.assertIs(told, wanted, (claim, paper))
        self.assertIs(accepts(paper=paper, claim=claim), wanted)
        self.assertIs(judge.accepted(claim, paper), wanted, (claim, paper))

    def test_right_papers(self):
        for claim, paper in RIGHT:
            with self.subTest(claim=claim, paper=paper):
                self.check(True, claim, paper)

    def test_wrong_papers(self):
        for claim, papers in WRONG_PAPERS:
            for paper in papers:
                with self.subTest(claim=claim, paper=paper):
                    self.check(False, claim, paper)

    def test_wrong_claims(self):
        for paper, claims in WRONG_CLAIMS:
            for claim in claims:
                with self.subTest(claim=claim, paper=paper):
                    self.check(False, claim, paper)

    def test_one_thing_bent(self):
        seen = {True: 0, False: 0}
        for claim, paper in RIGHT:
            for other in near(claim):
                wanted = judge.accepted(other, paper)
                self.assertIs(accepts(other, paper), wanted, (other, paper))
                seen[wanted] += 1
            for other in near(paper):
                wanted = judge.accepted(claim, other)
                self.assertIs(accepts(claim, other), wanted, (claim, other))
                seen[wanted] += 1
        self.assertGreater(seen[False], 2000)
        self.assertGreater(seen[True], 50)

    def test_values_of_any_kind_in_each_place(self):
        values = odd_values() + [EqualToAll(), nested(9), RAIN, Book("abc"), b"odds", (EqualToAll(),) * 5, HUGE]
        for claim, paper in RIGHT:
            for value in values:
                self.assertIs(accepts(claim, value), judge.accepted(claim, value), (claim, value))
                self.assertIs(accepts(value, paper), False)
                for place in range(len(claim)):
                    other = claim[:place] + (value,) + claim[place + 1:]
                    self.assertIs(accepts(other, paper), judge.accepted(other, paper), (other, paper))
                for place in range(len(paper)):
                    other = paper[:place] + (value,) + paper[place + 1:]
                    self.assertIs(accepts(claim, other), judge.accepted(claim, other), (claim, other))
                    if type(paper[place]) is tuple:
                        other = paper[:place] + ((value, paper[place][1]),) + paper[place + 1:]
                        self.assertIs(accepts(claim, other), judge.accepted(claim, other), (claim, other))
                        other = paper[:place] + ((paper[place][0], value),) + paper[place + 1:]
                        self.assertIs(accepts(claim, other), judge.accepted(claim, other), (claim, other))

    def test_values_of_any_kind_for_both(self):
        for claim in odd_values():
            for paper in odd_values() + [claim]:
                self.assertIs(accepts(claim, paper), False)

    def test_values_of_any_kind_deep_within_an_order(self):
        for value in odd_values():
            for told in (
                (value, ("a", "b"), ("ab",)), ((value,), ("a", "b"), ("ab",)), (("",), ("a", value), ("ab",)),
                (("",), (value, "b"), ("ab",)), (("",), ("a", "b"), value), (("",), ("a", "b"), ("ab",), value),
                (("",), ("a", "b"), ("ab",), (value,)),
            ):
                wanted = told == FLAT and value == "" and type(value) is str
                self.assertIs(accepts(("order", "ab", told), ((1, 2), (1, 2))), wanted)

    def test_bent_texts(self):
        for text in BENT_TEXTS:
            for claim, paper in RIGHT:
                if claim[0] != "order":
                    other = (claim[0], text, *claim[2:])
                    self.assertIs(accepts(other, paper), judge.accepted(other, paper), (other, paper))

    def test_words(self):
        paper = ((2, 3), (1, 6), (1, 6))
        words = ("Odds", "odd", "odds ", "", "none", "sure", "from", "order", "agrees", "more", "odds\n")
        for word in (*words, b"odds", None, ("odds",), 0, True):
            self.check(False, (word, RAIN), paper)
        self.check(False, (), paper)
        self.check(False, ("odds",), paper)
        self.check(False, ["odds", RAIN], paper)
        self.check(False, ("odds", RAIN, None), paper)
        self.check(False, "odds", paper)

    def test_a_claim_that_is_not_true_has_no_paper(self):
        # All rows of small numbers are tried.
        for text in (RAIN, TWO, "cases ab\nsame a b\nleast a -"):
            sayings = len(text.split("\n")) - 1
            for paper in product(range(-2, 4), repeat=sayings):
                self.assertIs(accepts(("none", text), paper), False)
        for rest in (("more", "b", "c"), ("more", "ab", "a"), ("least", "b", "a")):
            for paper in product(range(-2, 4), repeat=2):
                self.assertIs(accepts(("sure", RAIN, *rest), paper), False)
        parts = [pair(Fraction(number, 6)) for number in range(-6, 12)]
        for claim in (("from", TWO, "a", (4, 5)), ("from", TWO, "b", (1, 100)), ("from", TWO, "ab", (7, 6))):
            for paper in product(parts, repeat=2):
                self.assertIs(accepts(claim, paper), False)

    def test_true_claims_have_papers_of_small_numbers(self):
        for claim in (("none", BAD), ("sure", RAIN, "more", "a", "c"), ("sure", RAIN, "least", "a", "bc")):
            told = [paper for paper in product(range(-2, 4), repeat=2) if accepts(claim, paper)]
            self.assertEqual(told, [paper for paper in product(range(-2, 4), repeat=2) if judge.accepted(claim, paper)])
            self.assertIn((1, 1), told)

    def test_books_of_twelve_sayings(self):
        text = RAIN + "\nleast a b" * 11
        self.check(True, ("sure", text, "more", "a", "c"), (1,) + (0,) * 11 + (1,))
        self.check(True, ("sure", text, "least", "a", "b"), (0,) * 11 + (1, 1))
        self.check(False, ("sure", text, "more", "a", "c"), (1,) + (0,) * 11)
        self.check(False, ("sure", text, "more", "a", "c"), (1,) + (0,) * 12)
        self.check(False, ("sure", text, "more", "a", "c"), (1,) + (0,) * 11 + (1, 0))
        self.check(True, ("from", text, "a", (1, 2)), ((1, 2),) + ((0, 1),) * 11)
        self.check(True, ("odds", text), ((1, 1), (0, 1), (0, 1)))
        self.check(False, ("odds", text + "\nleast a b"), ((1, 1), (0, 1), (0, 1)))
        self.check(False, ("sure", text + "\nleast a b", "more", "a", "c"), (1,) + (0,) * 12 + (1,))

    def test_from_of_any_fraction(self):
        for part in ((-1, 1), (-7, 3), (0, 1)):
            self.check(True, ("from", "cases ab\nmore a b", "a", part), ((0, 1),))
        for part in ((1, 100), (1, 1), (3, 2)):
            self.check(False, ("from", "cases ab\nmore a b", "a", part), ((0, 1),))
        self.check(True, ("from", "cases ab\nmore a b", "ab", (1, 1)), ((0, 1),))
        self.check(False, ("from", "cases ab\nmore a b", "ab", (1001, 1000)), ((0, 1),))

    def test_from_of_a_book_that_no_odds_fit(self):
        text = "cases ab\nmore a b\nmore b a\nleast - ab"
        self.check(True, ("from", text, "", (3, 1)), ((0, 1), (0, 1), (3, 1)))
        self.check(True, ("from", text, "a", (99, 2)), ((5, 2), (5, 2), (99, 2)))
        self.check(False, ("from", text, "", (3, 1)), ((0, 1), (0, 1), (2, 1)))
        # Without a saying that leans everywhere there is no such paper, though no odds fit.
        self.check(False, ("from", "cases ab\nmore a b\nmore b a", "", (1, 1)), ((1, 1), (1, 1)))

    def test_huge_numbers(self):
        most = HUGE * HUGE + 1
        self.check(True, ("odds", TWO), ((HUGE - 1, HUGE), (1, HUGE)))
        self.check(False, ("odds", TWO), ((HUGE - 1, HUGE), (2, HUGE)))
        self.check(False, ("odds", TWO), ((HUGE - 1, HUGE), (1, HUGE + 1)))
        self.check(True, ("none", BAD), (most, most))
        self.check(False, ("none", BAD), (most, most + 1))
        self.check(False, ("none", BAD), (-most, -most))
        self.check(True, ("sure", RAIN, "more", "a", "c"), (HUGE, HUGE))
        self.check(True, ("from", TWO, "a", (3 * HUGE, 4 * HUGE + 1)), ((1, 4), (0, 1)))
        self.check(False, ("from", TWO, "a", (3 * HUGE + 1, 4 * HUGE)), ((1, 4), (0, 1)))
        self.check(False, ("from", TWO, "a", (3, 4)), ((HUGE, 4 * HUGE + 1), (0, 1)))
        self.check(False, ("from", TWO, "a", (3, 4)), ((HUGE, 4 * HUGE), (0, 1)))
        self.check(True, ("from", TWO, "a", (-most, 1)), ((HUGE, most), (1, HUGE)))
        odds = (pair(Fraction(HUGE, most)), pair(1 - Fraction(HUGE, most)))
        self.check(True, ("order", "ab", (("",), ("a",), ("b",), ("ab",))), odds)
        self.check(False, ("order", "ab", FLAT), odds)
        parts = tuple([(1, HUGE + place) for place in range(3)])
        self.check(False, ("odds", RAIN), parts)
        parts = tuple([(1, most + place) for place in range(12)])
        self.check(True, ("from", "cases abc" + "\nleast - -" * 12, "a", (0, 1)), parts)
        self.check(False, ("odds", "cases ab\ntimes a b " + "9" * 3000), ((1, 1), (0, 1)))

    def test_long_rows(self):
        self.check(False, ("odds", RAIN), ((0, 1),) * 50000)
        self.check(False, ("none", BAD), (1,) * 50000)
        self.check(False, ("from", TWO, "a", (3, 4)), ((0, 1),) * 50000)
        self.assertIs(accepts(("order", "ab", (("",),) * 50000), ((1, 2), (1, 2))), False)
        self.assertIs(accepts(("odds", RAIN) * 5000, ((1, 1), (0, 1), (0, 1))), False)

    def test_the_interface(self):
        self.assertEqual(vars(checker)["accepts"].__module__, "likelybook.checker")


class Truth(unittest.TestCase):
    """Against the second checker, and against the corners of all odds, for books of all sizes."""

    def some_claims(self, rng, book):
        lot, other = [rng.choice(lots(book.cases)) for _ in range(2)]
        part = pair(Fraction(rng.randint(-2, 14), 12))
        yield from (("odds", book.text), ("none", book.text), ("from", book.text, lot, part))
        for word in ("more", "least"):
            yield ("sure", book.text, word, lot, other)

    def some_paper(self, rng, claim, book):
        """A paper that is sometimes right."""
        many = len(book) + (claim[0] == "sure")
        if claim[0] == "odds":
            return some_odds(rng, len(book.cases))
        if claim[0] == "from":
            numbers = [rng.choice((0, 0, 0, 0, 1, 1, 2, 3, -1)) for _ in range(many)]
            return tuple([pair(Fraction(number, rng.choice((1, 2, 4)))) for number in numbers])
        words = [saying[0] for saying in book.sayings] + ["more"] * (many - len(book))
        return tuple([rng.choice((0, 0, 0, 1, 1, 2) + (-1,) * (word == "same")) for word in words])

    def is_true(self, claim, book):
        fits = oracle.some_fit(book.cases, book.sayings)
        if claim[0] in ("odds", "none"):
            return fits == (claim[0] == "odds")
        if not fits:
            return True
        if claim[0] == "sure":
            return oracle.always_holds(book.cases, book.sayings, claim[2:])
        least, _ = oracle.bound(book.cases, book.sayings, claim[2], min)
        return Fraction(*least) >= Fraction(*claim[3])

    def test_what_is_accepted_is_true(self):
        rng = random.Random(11)
        seen = {}
        for book in some_books(12, 250):
            if len(book) > 5:
                book = Book(book.cases, book.sayings[:5])
            for claim in self.some_claims(rng, book):
                true = self.is_true(claim, book)
                for _ in range(20):
                    paper = self.some_paper(rng, claim, book)
                    told = accepts(claim, paper)
                    self.assertIs(told, judge.accepted(claim, paper), (claim, paper))
                    self.assertTrue(true or not told, (claim, paper))
                    seen[claim[0], told] = seen.get((claim[0], told), 0) + 1
        self.assertEqual(len(seen), 8)
        self.assertGreater(min(seen.values()), 30)

    def test_papers_that_are_bent(self):
        rng = random.Random(13)
        seen = {True: 0, False: 0}
        for book in some_books(14, 60):
            lot, other = [rng.choice(lots(book.cases)) for _ in range(2)]
            made = [paper_of_sure(book, word, lot, other) for word in ("more", "least")] + [paper_of_book(book)]
            if made[-1][0][0] == "odds":
                made.append(paper_of_least(book, lot))
            for told in made:
                if told is not None:
                    claim, paper = told
                    self.assertIs(accepts(claim, paper), True)
                    others = [(claim, bent) for bent in near(paper)] + [(bent, paper) for bent in near(claim)]
                    for one, two in rng.sample(others, min(40, len(others))):
                        wanted = judge.accepted(one, two)
                        self.assertIs(accepts(one, two), wanted, (one, two))
                        seen[wanted] += 1
        self.assertGreater(seen[False], 1000)
        self.assertGreater(seen[True], 50)

    def test_papers_of_others(self):
        # Sums and multiples of right papers are right, too; and so are all odds that fit.
        rng = random.Random(15)
        for book in some_books(16, 120):
            claim, paper = paper_of_book(book)
            if claim[0] == "none":
                self.assertTrue(balances(book, paper))
                self.assertIs(accepts(claim, tuple([count * 17 for count in paper])), True)
                turned = Book(book.cases, book.sayings[::-1])
                other = paper_of_book(turned)[1][::-1]
                self.assertIs(accepts(claim, other), True)
                self.assertIs(accepts(claim, tuple([one + two for one, two in zip(paper, other)])), True)
            else:
                for _ in range(20):
                    told = some_odds(rng, len(book.cases))
                    self.assertTrue(are_odds(book.cases, told))
                    self.assertIs(accepts(claim, told), judge.accepted(claim, told))
                middle = oracle.corners(book.cases, book.sayings)
                told = tuple([pair(sum(parts) / len(middle)) for parts in zip(*middle)])
                self.assertIs(accepts(claim, told), True)

    def test_orders_of_odds(self):
        rng = random.Random(17)
        for cases in ("ab", "abc", "bdf", "abcd", "vwxyz", "abcdef"):
            for _ in range(6):
                odds, others = some_odds(rng, len(cases)), some_odds(rng, len(cases))
                worth = {}
                for lot in sorted(lots(cases)):
                    worth.setdefault(judge.lot_odds(cases, odds, lot), []).append(lot)
                told = tuple([tuple(worth[key]) for key in sorted(worth)])
                self.assertIs(accepts(("order", cases, told), odds), True)
                self.assertIs(accepts(("order", cases, told), others), judge.accepted(("order", cases, told), others))
                claim, paper = paper_of_order(cases, told)
                self.assertIs(accepts(claim, paper), True)
                self.assertIs(accepts(("order", cases, told[::-1]), odds), False)
                place = rng.randrange(len(told) - 1)
                bent = told[:place] + (told[place + 1], told[place]) + told[place + 2:]
                self.assertIs(accepts(("order", cases, bent), odds), False)

    def test_some_sayings_more(self):
        rng = random.Random(18)
        for book in some_books(19, 60):
            if len(book) == 12:
                saying = some_saying(rng, book.cases)
                for word in ("more", "least"):
                    made = paper_of_sure(book, word, saying[1], saying[2])
                    self.assertEqual(made is not None, self.is_true(("sure", book.text, word, *saying[1:3]), book))
                    if made is not None:
                        self.assertEqual(len(made[1]), 13)
                        self.assertIs(accepts(*made), True)


if __name__ == "__main__":
    unittest.main()
