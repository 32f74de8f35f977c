"""What is sure in all odds that fit a book."""

from likelybook.books import check_book, check_lot
from likelybook.fitting import check_fits, may_hold
from likelybook.leaning import demands_of
from likelybook.ratios import fraction
from likelybook.sayings import marks, shared, unshared
from likelybook.solving import can_hold, least_multiple


def sure(book, left, right):
    """What the first lot surely is: "more", "less", "same", "least", "most" or "open"."""
    _check(book, left, right)
    more = may_hold(book, ("more", left, right))
    less = may_hold(book, ("more", right, left))
    if more and less:
        return "open"
    if not may_hold(book, ("same", left, right)):
        return "more" if more else "less"
    if more:
        return "least"
    return "most" if less else "same"


def least_odds(book, lot):
    """A pair: the least odds of a lot, and whether they are reached."""
    _check(book, lot)
    return _least(book, lot)


def greatest_odds(book, lot):
    """A pair: the greatest odds of a lot, and whether they are reached."""
    _check(book, lot)
    # They are reached just where the other cases have their least odds.
    least, reached = _least(book, unshared(book.cases, lot))
    return _less_from_one(least), reached


def least_times(book, left, right):
    """The least times of two lots, None if there are none."""
    _check(book, left, right)
    return _times(book, left, right)


def least_given(book, lot, known):
    """The least odds of a lot given the lot that is known, None if there are none."""
    _check(book, lot, known)
    return _times(book, shared(lot, known), known)


def greatest_given(book, lot, known):
    """The greatest odds of a lot given the lot that is known, None if there are none."""
    _check(book, lot, known)
    least = _times(book, unshared(known, lot), known)
    return None if least is None else _less_from_one(least)


def _check(book, *lots):
    """Raises an error if a value is no book or no lot of it, or if no odds fit the book."""
    check_book(book)
    for lot in lots:
        check_lot(book.cases, lot)
    check_fits(book)


def _least(book, lot):
    """A pair: the least odds of a lot of a book that some odds fit, and whether they are reached."""
    least = _times(book, lot, book.cases)
    above, below = least
    # In some odds that fit, these times the odds of the cases have a sum that is not below 0.
    leans = [above - below * mark for mark in marks(book.cases, lot)]
    demands = demands_of(book.cases, book.sayings) + [("least", leans)]
    return least, can_hold(len(book.cases), demands)


def _times(book, left, right):
    """The least times of two lots of a book that some odds fit, None if there are none."""
    demands = demands_of(book.cases, book.sayings)
    least, _ = least_multiple(demands, marks(book.cases, left), marks(book.cases, right))
    return least


def _less_from_one(part):
    """1 less a fraction."""
    above, below = part
    return fraction(below - above, below)
