"""The examples of the document, as they stand there."""

import unittest

from likelybook.books import Book
from likelybook.checker import accepts
from likelybook.console import Console
from likelybook.desks import Desk
from likelybook.errors import Broken
from likelybook.fitting import agrees, balance, failing, is_balance, odds, odds_of
from likelybook.mending import may_say, needless, open_pairs, strikes
from likelybook.orders import count_plain, giving, is_order, is_plain, order
from likelybook.papers import paper_of_book, paper_of_least, paper_of_order, paper_of_sure
from likelybook.sure import greatest_given, greatest_odds, least_given, least_odds, least_times, sure
from likelybook.whole import how_many, weights

RAIN = Book("abc", (("more", "a", "bc"),))
BAD = RAIN.with_saying(("least", "b", "a"))
TWO = Book.read("cases ab\ntimes a b 3\nmore b -")


class Examples(unittest.TestCase):
    def test_the_text_of_point_6(self):
        book = Book("abc", (("more", "a", "bc"), ("times", "b", "c", 2), ("least", "c", "")))
        text = "cases abc\nmore a bc\ntimes b c 2\nleast c -"
        self.assertEqual(book.text, text)
        self.assertEqual(Book.read(text), book)

    def test_books(self):
        rain = Book("abc", (("more", "a", "bc"),))
        bad, two = rain.with_saying(("least", "b", "a")), Book.read("cases ab\ntimes a b 3\nmore b -")
        self.assertEqual(
            [rain.text, len(bad), bad.without(1) == rain, two.sayings, rain.renamed("xyz").text],
            ['cases abc\nmore a bc', 2, True, (('times', 'a', 'b', 3), ('more', 'b', '')), 'cases xyz\nmore x yz'],
        )

    def test_fitting(self):
        rain = Book("abc", (("more", "a", "bc"),))
        bad = rain.with_saying(("least", "b", "a"))
        half = ((1, 2), (1, 4), (1, 4))
        self.assertEqual(
            [
                failing(rain, ((2, 3), (1, 6), (1, 6))), failing(rain, half), odds_of(rain, half, "bc"),
                agrees(rain), agrees(bad), failing(rain, odds(rain)), odds(bad), balance(rain),
            ],
            [None, 0, (1, 2), True, False, None, None, None],
        )
        self.assertEqual(
            [
                is_balance(bad, (1, 1)), is_balance(bad, balance(bad)), is_balance(bad, (1, 0)),
                is_balance(rain, (0,)), is_balance(Book("ab", (("least", "", "ab"),)), (1,)),
            ],
            [True, True, False, False, True],
        )

    def test_sure(self):
        rain, two = RAIN, TWO
        self.assertEqual(
            [
                sure(rain, "a", "b"), sure(rain, "b", "c"), sure(rain, "ab", "a"), sure(rain, "c", "abc"),
                sure(rain, "a", "a"), sure(rain, "a", "ab"),
            ],
            ['more', 'open', 'least', 'less', 'same', 'most'],
        )
        self.assertEqual(
            [
                least_odds(rain, "a"), greatest_odds(rain, "a"), greatest_odds(rain, "b"), least_odds(two, "a"),
                greatest_odds(two, "a"),
            ],
            [((1, 2), False), ((1, 1), True), ((1, 2), False), ((3, 4), True), ((1, 1), False)],
        )
        self.assertEqual(
            [
                least_times(two, "a", "b"), least_times(rain, "a", "bc"), least_times(rain, "b", "a"),
                least_times(rain, "a", ""), least_given(rain, "a", "ab"), greatest_given(rain, "a", "ab"),
                least_given(rain, "bc", "c"),
            ],
            [(3, 1), (1, 1), (0, 1), None, (1, 2), (1, 1), (1, 1)],
        )

    def test_whole(self):
        two, rain, bad = TWO, RAIN, BAD
        self.assertEqual(
            [
                weights(two, 10), how_many(two, 4), how_many(two, 8), weights(rain, 5), weights(two, 3),
                weights(bad, 30),
            ],
            [(3, 1), 1, 2, (1, 0, 0), None, None],
        )

    def test_orders(self):
        self.assertEqual(
            [
                order("ab", ((2, 3), (1, 3))), order("ab", ((1, 2), (1, 2))), order("ab", ((1, 1), (0, 1))),
                is_plain("ab", (("",), ("b",), ("ab",), ("a",))), is_order("ab", (("",), ("b",), ("ab",), ("a",))),
            ],
            [
                (('',), ('b',), ('a',), ('ab',)), (('',), ('a', 'b'), ('ab',)), (('', 'b'), ('a', 'ab')),
                False, True,
            ],
        )
        self.assertEqual(
            [
                giving("ab", (("",), ("a", "b"), ("ab",))), giving("ab", (("",), ("b",), ("ab",), ("a",))),
                count_plain("ab"), count_plain("abc"),
            ],
            [((1, 2), (1, 2)), None, 2, 12],
        )

    def test_mending(self):
        rain, bad = RAIN, BAD
        self.assertEqual(
            [
                strikes(bad), strikes(rain), may_say(rain, ("least", "c", "b")), may_say(rain, ("more", "b", "a")),
                needless(rain.with_saying(("more", "a", "c"))), open_pairs(rain),
            ],
            [((0,), (1,)), ((),), True, False, (1,), (('b', 'c'),)],
        )

    def test_desks(self):
        rain = RAIN
        desk = Desk()
        desk["sky"] = rain
        done = [
            desk.claim(("sure", "sky", "more", "a", "c")), desk.claim(("from", "sky", "a", (1, 2))),
            desk.say("sky", ("more", "b", "c")), desk.changes,
        ]
        self.assertEqual(
            [done, len(desk["sky"]), desk.undo(), len(desk["sky"])],
            [[None, None, None, 4], 2, None, 1],
        )
        with self.assertRaises(Broken) as caught:
            desk.claim(("sure", "sky", "more", "b", "c"))
        self.assertEqual((caught.exception.index, caught.exception.shown), (2, 'open'))

    def test_console(self):
        console = Console()
        self.assertEqual(
            [
                console.run("put b\ncases abc\nmore a bc"), console.run("agrees b"), console.run("sure b a c"),
                console.run("odds b a"), console.run("say b more b -"), console.run("weights b 9"),
                console.run("names"), console.run("claims"),
            ],
            ['ok', 'yes', 'more', '1/2 1/1', 'ok', '2 1 0', 'b', '0'],
        )

    def test_papers_and_the_checker(self):
        rain, bad, two = RAIN, BAD, TWO
        papers = [
            paper_of_book(rain), paper_of_book(bad), paper_of_sure(rain, "more", "a", "c"),
            paper_of_least(two, "a"), paper_of_order("ab", (("",), ("a", "b"), ("ab",))),
        ]
        self.assertEqual(
            [
                papers[0][0], papers[1][0][0], papers[2][0], papers[3][0][3], papers[4],
                paper_of_sure(rain, "least", "b", "c"),
            ],
            [
                ('odds', 'cases abc\nmore a bc'), 'none', ('sure', 'cases abc\nmore a bc', 'more', 'a', 'c'), (3, 4),
                (('order', 'ab', (('',), ('a', 'b'), ('ab',))), ((1, 2), (1, 2))), None,
            ],
        )
        self.assertEqual(
            [
                accepts(papers[0][0], papers[0][1]), accepts(papers[1][0], papers[1][1]),
                accepts(papers[2][0], papers[2][1]), accepts(papers[3][0], papers[3][1]),
                accepts(papers[4][0], papers[4][1]), accepts(("none", bad.text), (1, 1)),
                accepts(("sure", rain.text, "more", "a", "c"), (1, 1)),
                accepts(("from", two.text, "a", (3, 4)), ((1, 4), (0, 1))),
                accepts(("from", two.text, "a", (4, 5)), ((1, 4), (0, 1))),
            ],
            [True, True, True, True, True, True, True, True, False],
        )


if __name__ == "__main__":
    unittest.main()
