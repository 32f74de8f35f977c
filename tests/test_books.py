import unittest

from likelybook.books import Book
from likelybook.errors import (
    InvalidCases,
    InvalidIndex,
    InvalidSaying,
    InvalidSayings,
    InvalidText,
    TooMany,
)
from tests.support import (
    WRONG_CASES,
    EqualToAll,
    Raising,
    all_sayings,
    lots,
    odd_values,
    some_books,
    wrong_sayings,
)

RAIN = ("more", "a", "bc")
RIGHT = ("least", "b", "a")
TWELVE = tuple([("times", "a", "bc", 2 + turn % 8) for turn in range(12)])


class Making(Raising):
    def test_by_place_and_by_name(self):
        for book in (Book("abc", (RAIN,)), Book("abc", sayings=(RAIN,)), Book(sayings=(RAIN,), cases="abc")):
            self.assertEqual((book.cases, book.sayings), ("abc", (RAIN,)))
        for book in (Book("ab"), Book(cases="ab"), Book("ab", ())):
            self.assertEqual((book.cases, book.sayings), ("ab", ()))

    def test_cases_of_each_number(self):
        for cases in ("ab", "az", "xyz", "acfh", "abcde", "uvwxyz"):
            self.assertEqual(Book(cases).cases, cases)

    def test_wrong_cases(self):
        for cases in WRONG_CASES + odd_values():
            with self.subTest(cases):
                self.raised(InvalidCases, cases, Book, cases)
                self.raised(InvalidCases, cases, Book, cases=cases, sayings=())

    def test_wrong_cases_are_told_ahead_of_wrong_sayings(self):
        for sayings in ([], None, ("more",), TWELVE + TWELVE):
            self.raised(InvalidCases, "ba", Book, "ba", sayings)
            self.raised(InvalidCases, "ba", Book, sayings=sayings, cases="ba")

    def test_each_saying(self):
        for cases in ("ab", "bxz"):
            for saying in all_sayings(cases):
                self.assertEqual(Book(cases, (saying,)).sayings, (saying,))

    def test_sayings_of_the_longest_book(self):
        saying = ("times", "acdf", "abcdef", 9)
        self.assertEqual(Book("abcdef", (saying,) * 12).sayings, (saying,) * 12)

    def test_sayings_that_are_no_tuple(self):
        for sayings in odd_values():
            if not isinstance(sayings, tuple):
                with self.subTest(sayings):
                    self.raised(InvalidSayings, None, Book, "abc", sayings)
        self.raised(InvalidSayings, None, Book, "abc", [RAIN])
        self.raised(InvalidSayings, None, Book, cases="abc", sayings={RAIN: RAIN})

    def test_the_first_wrong_saying(self):
        for saying in wrong_sayings():
            with self.subTest(saying):
                self.raised(InvalidSayings, 0, Book, "abc", (saying,))
                self.raised(InvalidSayings, 2, Book, "abc", (RAIN, RIGHT, saying, RAIN, saying))
                self.raised(InvalidSayings, 11, Book, "abc", (RAIN,) * 11 + (saying,) * 5)

    def test_a_saying_stands_in_a_tuple(self):
        self.raised(InvalidSayings, 0, Book, "abc", RAIN)

    def test_sayings_about_other_cases(self):
        self.raised(InvalidSayings, 1, Book, "ab", (("more", "a", ""), RAIN))

    def test_twelve_sayings_and_the_thirteenth(self):
        self.assertEqual(len(Book("abc", TWELVE)), 12)
        self.raised(InvalidSayings, 12, Book, "abc", TWELVE + (RAIN,))
        self.raised(InvalidSayings, 12, Book, "abc", TWELVE + (RAIN,) * 30)
        self.raised(InvalidSayings, 12, Book, "abc", TWELVE + (None,))
        self.raised(InvalidSayings, 12, Book, "abc", TWELVE + (RAIN, None))
        self.raised(InvalidSayings, 5, Book, "abc", TWELVE[:5] + (None,) + TWELVE)


class Texts(Raising):
    def test_text_of_each_word(self):
        sayings = (RAIN, ("least", "b", "ac"), ("same", "abc", "c"), ("times", "b", "c", 2), ("times", "b", "a", 9))
        lines = ["cases abc", "more a bc", "least b ac", "same abc c", "times b c 2", "times b a 9"]
        for many in range(6):
            book = Book("abc", sayings[:many])
            self.assertEqual(book.text, "\n".join(lines[:many + 1]))
            self.assertEqual(str(book), book.text)
            self.assertIs(type(str(book)), str)

    def test_the_lot_of_none_is_a_dash(self):
        self.assertEqual(Book("ab", (("more", "a", ""),)).text, "cases ab\nmore a -")
        self.assertEqual(Book("ab", (("same", "", "b"),)).text, "cases ab\nsame - b")
        self.assertEqual(Book("ab", (("times", "", "", 3),)).text, "cases ab\ntimes - - 3")

    def test_read_by_place_and_by_name(self):
        for book in (Book.read("cases abc\nmore a bc"), Book.read(text="cases abc\nmore a bc")):
            self.assertIs(type(book), Book)
            self.assertEqual((book.cases, book.sayings), ("abc", (RAIN,)))
        self.assertEqual(Book.read("cases az").sayings, ())

    def test_read_gives_back_what_text_tells(self):
        books = [Book("ab", (saying,)) for saying in all_sayings("ab")] + some_books(1, 200) + [Book("abc", TWELVE)]
        for book in books:
            again = Book.read(book.text)
            self.assertEqual((again.cases, again.sayings, again.text), (book.cases, book.sayings, book.text))
            for saying, told in zip(book.sayings, again.sayings):
                self.assertEqual([type(part) for part in told], [type(part) for part in saying])

    def test_texts_that_are_none(self):
        wrong = [
            "", "\n", "abc", "cases", "cases ", "cases a", "cases ba", "cases aa", "cases abcdefg", "cases a b",
            "cases  ab", "cases ab ", " cases ab", "cases ab\n", "\ncases ab", "Cases ab", "case ab", "cases -",
            "cases ab\n\nmore a b", "cases ab\nmore a b\n", "cases cases ab", "cases ab\ncases ab", "more a b",
            "cases ab\nmore a  b", "cases ab\nmore  a b", "cases ab\n more a b", "cases ab\nmore a b ",
            "cases ab\nmore a", "cases ab\nmore a ", "cases ab\nmore  b", "cases ab\nmore", "cases ab\nmore ",
            "cases ab\nmore a b 2", "cases ab\nmore a b b", "cases ab\nmore a c", "cases ab\nmore ba a",
            "cases ab\nmore aa b", "cases ab\nmore a- b", "cases ab\nmore -- b", "cases ab\nless a b",
            "cases ab\nMore a b", "cases ab\nmore,a,b", "cases ab\ntimes a b", "cases ab\ntimes a b ",
            "cases ab\ntimes a b 1", "cases ab\ntimes a b 10", "cases ab\ntimes a b 0", "cases ab\ntimes a b 02",
            "cases ab\ntimes a b +2", "cases ab\ntimes a b -2", "cases ab\ntimes a b 2 ", "cases ab\ntimes a b  2",
            "cases ab\ntimes a b 2 2", "cases ab\ntimes a b b", "cases ab\ntimes a b -", "cases ab\ntimes a 2 b",
            "cases ab\ntimes 2 a b", "cases ab\ntimes a b 22", "cases ab more a b", "cases ab\nmore a b\ncases ab",
            "cases abc\n" + "\n".join(["more a b"] * 13),
        ]
        for text in wrong:
            with self.subTest(text):
                self.raised(InvalidText, text, Book.read, text)
                self.raised(InvalidText, text, Book.read, text=text)

    def test_each_other_sign_in_a_text_matters(self):
        text = "cases ab\ntimes a - 3\nmore b -"
        wrong = 0
        for at in range(len(text)):
            for sign in ("", " ", "-", "\n", "A", "0", "c", "1"):
                for other in (text[:at] + sign + text[at + 1:], text[:at] + sign + text[at:]):
                    try:
                        self.assertEqual(Book.read(other).text, other)
                    except InvalidText as error:
                        self.assertEqual(error.given, other)
                        wrong += 1
        self.assertGreater(wrong, 400)

    def test_values_that_are_no_strings(self):
        for value in odd_values() + [Book("ab"), b"cases ab", ["cases ab"], ("cases ab",)]:
            if not isinstance(value, str):
                with self.subTest(value):
                    self.raised(InvalidText, value, Book.read, value)


class Changing(Raising):
    def setUp(self):
        self.book = Book("abc", (RAIN, RIGHT, ("times", "ab", "c", 4)))
        self.before = (self.book.cases, self.book.sayings, self.book.text)

    def tearDown(self):
        self.assertEqual((self.book.cases, self.book.sayings, self.book.text), self.before)

    def test_with_saying(self):
        new = ("same", "", "abc")
        for book in (self.book.with_saying(new), self.book.with_saying(saying=new)):
            self.assertIs(type(book), Book)
            self.assertEqual(book.sayings, self.book.sayings + (new,))
            self.assertEqual(book.text, self.book.text + "\nsame - abc")
        self.assertEqual(self.book.with_saying(RAIN).sayings, self.book.sayings + (RAIN,))

    def test_with_saying_refuses(self):
        full = Book("abc", TWELVE)
        for saying in wrong_sayings() + [(RAIN,), self.book, Book("ab").sayings]:
            with self.subTest(saying):
                self.raised(InvalidSaying, saying, self.book.with_saying, saying)
                self.raised(InvalidSaying, saying, self.book.with_saying, saying=saying)
                self.raised(InvalidSaying, saying, full.with_saying, saying)

    def test_with_a_thirteenth_saying(self):
        book = Book("abc", TWELVE[:11]).with_saying(TWELVE[11])
        self.assertEqual(book.sayings, TWELVE)
        self.raised(TooMany, 12, book.with_saying, RAIN)
        self.raised(TooMany, 12, book.with_saying, saying=RAIN)
        self.assertEqual(book.sayings, TWELVE)

    def test_without(self):
        first, second, third = self.book.sayings
        wanted = {0: (second, third), 1: (first, third), 2: (first, second)}
        for index, sayings in wanted.items():
            self.assertEqual(self.book.without(index).sayings, sayings)
            self.assertEqual(self.book.without(index=index).cases, "abc")
        self.assertEqual(self.book.without(0).without(0).without(0), Book("abc"))

    def test_without_one_of_two_alike(self):
        self.assertEqual(Book("abc", (RAIN, RIGHT, RAIN)).without(2).sayings, (RAIN, RIGHT))

    def test_without_refuses(self):
        indexes = [value for value in odd_values() if not (type(value) is int and value in (0, 1))]
        for index in indexes + [3, 4, 12, -2, -3, -4, "0", (0,), [0], True, False]:
            with self.subTest(index):
                self.raised(InvalidIndex, index, self.book.without, index)
                self.raised(InvalidIndex, index, self.book.without, index=index)
        self.raised(InvalidIndex, 0, Book("abc").without, 0)

    def test_renamed(self):
        wanted = (("more", "k", "mx"), ("least", "m", "k"), ("times", "km", "x", 4))
        for book in (self.book.renamed("kmx"), self.book.renamed(cases="kmx")):
            self.assertEqual((book.cases, book.sayings), ("kmx", wanted))
            self.assertEqual(book.text, "cases kmx\nmore k mx\nleast m k\ntimes km x 4")
        self.assertEqual(self.book.renamed("abc"), self.book)

    def test_renamed_to_cases_that_were_there(self):
        wanted = (("more", "b", "cd"), ("least", "c", "b"), ("times", "bc", "d", 4))
        self.assertEqual(self.book.renamed("bcd").sayings, wanted)
        self.assertEqual(Book("bc", (("more", "bc", ""),)).renamed("ab").sayings, (("more", "ab", ""),))

    def test_renamed_refuses(self):
        for cases in WRONG_CASES + odd_values() + ["ab", "abcd", "xyzw", "uvwxyz"]:
            with self.subTest(cases):
                self.raised(InvalidCases, cases, self.book.renamed, cases)
                self.raised(InvalidCases, cases, self.book.renamed, cases=cases)

    def test_properties_are_not_set(self):
        for name in ("cases", "sayings", "text"):
            with self.assertRaises(AttributeError):
                setattr(self.book, name, getattr(self.book, name))


class Operators(unittest.TestCase):
    def test_len_and_truth(self):
        for many in range(13):
            book = Book("abc", TWELVE[:many])
            self.assertEqual(len(book), many)
            self.assertIs(bool(book), True)

    def test_equal_if_the_texts_are(self):
        books = [
            Book("ab"), Book("abc"), Book("ac"), Book("abc", (RAIN,)), Book("abc", (RIGHT,)),
            Book("abc", (RAIN, RIGHT)), Book("abc", (RIGHT, RAIN)), Book("abc", (RAIN, RAIN)),
            Book("abc", (("more", "a", "b"),)), Book("abc", (("times", "a", "b", 2),)),
            Book("abc", (("times", "a", "b", 3),)),
        ]
        for at, book in enumerate(books):
            for other_at, other in enumerate(books):
                self.assertIs(book == other, at == other_at)
                self.assertIs(book != other, at != other_at)
            again = Book.read(book.text)
            self.assertIsNot(again, book)
            self.assertIs(book == again, True)
            self.assertIs(book != again, False)

    def test_equal_to_nothing_else(self):
        book = Book("ab")
        for value in [*odd_values(), book.text, ("ab", ()), book.sayings, "ab"]:
            if not isinstance(value, EqualToAll):
                with self.subTest(value):
                    self.assertIs(book == value, False)
                    self.assertIs(value == book, False)
                    self.assertIs(book != value, True)
                    self.assertIs(value != book, True)
        self.assertIs(book == EqualToAll(), False)
        self.assertIs(book != EqualToAll(), True)

    def test_what_the_interface_lists_is_defined_in_the_class(self):
        for name in ("__init__", "__eq__", "__str__", "__len__", "__bool__", "with_saying", "without", "renamed"):
            self.assertIn(name, vars(Book))
        self.assertTrue({"read", "cases", "sayings", "text"} <= set(vars(Book)))
        self.assertEqual(Book.__module__, "likelybook.books")

    def test_lots_that_are_alike_empty_or_have_cases_in_common(self):
        for saying in (("more", "", ""), ("same", "abc", "abc"), ("least", "ab", "bc"), ("times", "ab", "bc", 5)):
            self.assertEqual(Book("abc", (saying,)).sayings, (saying,))

    def test_every_lot_on_both_sides(self):
        for lot in lots("abcd"):
            self.assertEqual(Book("abcd", (("same", lot, lot),)).sayings, (("same", lot, lot),))


if __name__ == "__main__":
    unittest.main()
