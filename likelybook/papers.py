"""Claims for the checker, with papers that show them."""

from likelybook.books import check_book, check_lot
from likelybook.checker import is_sure_word
from likelybook.errors import InvalidSaying
from likelybook.fitting import check_fits
from likelybook.leaning import demands_of
from likelybook.orders import giving
from likelybook.sayings import denial, marks
from likelybook.solving import least_multiple, odds_or_balance


def paper_of_book(book):
    """The claim that some odds fit, or that none do, and its paper."""
    check_book(book)
    found, counts = odds_or_balance(book.cases, book.sayings)
    if counts is None:
        return ("odds", book.text), found
    return ("none", book.text), counts


def paper_of_sure(book, word, left, right):
    """The claim that a saying surely holds, and its paper; None if it does not."""
    check_book(book)
    if not is_sure_word(word):
        raise InvalidSaying(word)
    check_lot(book.cases, left)
    check_lot(book.cases, right)
    _, counts = odds_or_balance(book.cases, book.sayings + (denial(word, left, right),))
    return None if counts is None else (("sure", book.text, word, left, right), counts)


def paper_of_least(book, lot):
    """The claim that a lot surely has at least its least odds, and its paper."""
    check_book(book)
    check_lot(book.cases, lot)
    check_fits(book)
    demands = demands_of(book.cases, book.sayings)
    least, shares = least_multiple(demands, marks(book.cases, lot), marks(book.cases, book.cases))
    return ("from", book.text, lot, least), tuple(shares)


def paper_of_order(cases, order):
    """The claim that some odds give an order, and its paper; None if none do."""
    found = giving(cases, order)
    return None if found is None else (("order", cases, order), found)
