"""Books: cases and sayings about them."""

from likelybook.errors import (
    InvalidCases,
    InvalidIndex,
    InvalidLot,
    InvalidSaying,
    InvalidSayings,
    InvalidText,
    NotABook,
    TooMany,
)
from likelybook.limits import MOST_SAYINGS
from likelybook.ratios import is_integer
from likelybook.sayings import are_cases, is_lot, is_saying, line_of, told_by

HEAD = "cases "


class Book:
    """Cases and up to twelve sayings about them, in an order."""

    def __init__(self, cases, sayings=()):
        check_cases(cases)
        _check_sayings(cases, sayings)
        self._cases = cases
        self._sayings = sayings
        self._text = "\n".join([HEAD + cases] + [line_of(saying) for saying in sayings])

    @staticmethod
    def read(text):
        """The book that has this text."""
        if not isinstance(text, str):
            raise InvalidText(text)
        head, *lines = text.split("\n")
        sayings = tuple([told_by(line) for line in lines])
        try:
            book = Book(head.removeprefix(HEAD), sayings)
        except (InvalidCases, InvalidSayings):
            raise InvalidText(text) from None
        # A text that is nearly one, such as one with a lot left out, can be read as well.
        if book.text != text:
            raise InvalidText(text)
        return book

    @property
    def cases(self):
        """The cases, a string."""
        return self._cases

    @property
    def sayings(self):
        """The tuple of the sayings."""
        return self._sayings

    @property
    def text(self):
        """The text of the book."""
        return self._text

    def with_saying(self, saying):
        """The book with one saying more, the last one."""
        check_saying(self._cases, saying)
        if len(self._sayings) >= MOST_SAYINGS:
            raise TooMany(MOST_SAYINGS)
        return Book(self._cases, self._sayings + (saying,))

    def without(self, index):
        """The book without the saying that has this index."""
        if not is_integer(index) or not 0 <= index < len(self._sayings):
            raise InvalidIndex(index)
        return Book(self._cases, self._sayings[:index] + self._sayings[index + 1:])

    def renamed(self, cases):
        """The same sayings about other cases, as many."""
        if not are_cases(cases) or len(cases) != len(self._cases):
            raise InvalidCases(cases)
        return Book(cases, tuple([_renamed(saying, self._cases, cases) for saying in self._sayings]))

    def __eq__(self, other):
        return isinstance(other, Book) and self._text == other._text

    def __str__(self):
        return str(self._text)

    def __len__(self):
        return len(self._sayings)

    def __bool__(self):
        # Without this a book without sayings, which has the length 0, would not be true.
        return True


def _check_sayings(cases, sayings):
    """Raises InvalidSayings if a value is no tuple of so many sayings about the cases."""
    if not isinstance(sayings, tuple):
        raise InvalidSayings(None)
    for index, saying in enumerate(sayings):
        if index >= MOST_SAYINGS or not is_saying(cases, saying):
            raise InvalidSayings(index)


def _renamed(saying, cases, others):
    """A saying about other cases, each in the place of the one with its index."""
    word, left, right, *rest = saying
    # Both are ascending, so that a lot stays ascending.
    lots = ["".join([others[cases.index(case)] for case in lot]) for lot in (left, right)]
    return (word, *lots, *rest)


def check_cases(cases):
    """Raises InvalidCases if a value is no cases."""
    if not are_cases(cases):
        raise InvalidCases(cases)


def check_book(book):
    """Raises NotABook if a value is no book."""
    if not isinstance(book, Book):
        raise NotABook(book)


def check_lot(cases, lot):
    """Raises InvalidLot if a value is no lot of the cases."""
    if not is_lot(cases, lot):
        raise InvalidLot(lot)


def check_saying(cases, saying):
    """Raises InvalidSaying if a value is no saying about the cases."""
    if not is_saying(cases, saying):
        raise InvalidSaying(saying)
