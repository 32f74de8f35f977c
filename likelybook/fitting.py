"""Odds that fit a book, and balances of a book that no odds fit."""

from likelybook.books import check_book, check_lot
from likelybook.errors import InvalidOdds, NoOdds
from likelybook.leaning import demands_of, holds, is_balance_of
from likelybook.ratios import fraction, is_fraction, over_whole
from likelybook.solving import can_hold, odds_or_balance


def odds_of(book, odds, lot):
    """The odds of a lot."""
    check_book(book)
    check_odds(book.cases, odds)
    check_lot(book.cases, lot)
    amounts, whole = over_whole(odds)
    return fraction(sum([amount for case, amount in zip(book.cases, amounts) if case in lot]), whole)


def failing(book, odds):
    """The index of the first saying that does not hold, None if the odds fit."""
    check_book(book)
    check_odds(book.cases, odds)
    amounts, _ = over_whole(odds)
    for index, saying in enumerate(book.sayings):
        if not holds(saying, book.cases, amounts):
            return index
    return None


def agrees(book):
    """Whether some odds fit."""
    check_book(book)
    found, _ = odds_or_balance(book.cases, book.sayings)
    return found is not None


def odds(book):
    """Any odds that fit, None if there are none."""
    check_book(book)
    found, _ = odds_or_balance(book.cases, book.sayings)
    return found


def balance(book):
    """Any balance, None if there is none."""
    check_book(book)
    _, found = odds_or_balance(book.cases, book.sayings)
    return found


def is_balance(book, counts):
    """Whether any value is a balance of the book."""
    check_book(book)
    return is_balance_of(book.cases, book.sayings, counts)


def may_hold(book, saying):
    """Whether a saying holds in some odds that fit, of a book of any number of sayings."""
    return can_hold(len(book.cases), demands_of(book.cases, book.sayings + (saying,)))


def check_odds(cases, odds):
    """Raises InvalidOdds if a value is no odds for the cases."""
    if not isinstance(odds, tuple):
        raise InvalidOdds(None)
    for index, part in enumerate(odds):
        if index >= len(cases) or not is_fraction(part) or part[0] < 0:
            raise InvalidOdds(index)
    amounts, whole = over_whole(odds)
    if len(odds) < len(cases) or sum(amounts) != whole:
        raise InvalidOdds(None)


def check_fits(book):
    """Raises NoOdds if no odds fit a book."""
    _, found = odds_or_balance(book.cases, book.sayings)
    if found is not None:
        raise NoOdds(found)
