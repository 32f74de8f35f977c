"""The examples of the document, as they stand there."""

import unittest

from likelybook.books import Book
from likelybook.fitting import agrees, balance, failing, is_balance, odds, odds_of


class Examples(unittest.TestCase):
    def test_the_text_of_point_6(self):
        book = Book("abc", (("more", "a", "bc"), ("times", "b", "c", 2), ("least", "c", "")))
        text = "cases abc\nmore a bc\ntimes b c 2\nleast c -"
        self.assertEqual(book.text, text)
        self.assertEqual(Book.read(text), book)

    def test_books(self):
        rain = Book("abc", (("more", "a", "bc"),))
        bad, two = rain.with_saying(("least", "b", "a")), Book.read("cases ab\ntimes a b 3\nmore b -")
        self.assertEqual(
            [rain.text, len(bad), bad.without(1) == rain, two.sayings, rain.renamed("xyz").text],
            ['cases abc\nmore a bc', 2, True, (('times', 'a', 'b', 3), ('more', 'b', '')), 'cases xyz\nmore x yz'],
        )

    def test_fitting(self):
        rain = Book("abc", (("more", "a", "bc"),))
        bad = rain.with_saying(("least", "b", "a"))
        half = ((1, 2), (1, 4), (1, 4))
        self.assertEqual(
            [
                failing(rain, ((2, 3), (1, 6), (1, 6))), failing(rain, half), odds_of(rain, half, "bc"),
                agrees(rain), agrees(bad), failing(rain, odds(rain)), odds(bad), balance(rain),
            ],
            [None, 0, (1, 2), True, False, None, None, None],
        )
        self.assertEqual(
            [
                is_balance(bad, (1, 1)), is_balance(bad, balance(bad)), is_balance(bad, (1, 0)),
                is_balance(rain, (0,)), is_balance(Book("ab", (("least", "", "ab"),)), (1,)),
            ],
            [True, True, False, False, True],
        )


if __name__ == "__main__":
    unittest.main()
