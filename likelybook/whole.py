"""Weights: integers that fit a book as odds by their sum."""

from likelybook.books import check_book
from likelybook.errors import InvalidNumber
from likelybook.fitting import agrees
from likelybook.leaning import demands_of
from likelybook.limits import MOST_TOTAL
from likelybook.ratios import is_integer


def weights(book, most):
    """The weights that fit with the least sum, up to `most`, the greatest ones of these; None if there are none."""
    check_book(book)
    _check_number(most)
    # Without odds the search would go through all sums in vain.
    if not agrees(book):
        return None
    steps, needs = _steps_and_needs(book)
    for total in range(1, most + 1):
        found = _greatest(steps, 0, needs, total)
        if found is not None:
            return found
    return None


def how_many(book, total):
    """How many weights with this sum fit."""
    check_book(book)
    _check_number(total)
    steps, needs = _steps_and_needs(book)
    return _many(steps, 0, needs, total)


def _check_number(number):
    """Raises InvalidNumber if a value is no integer that can be a sum of weights."""
    if not is_integer(number) or not 1 <= number <= MOST_TOTAL:
        raise InvalidNumber(number)


def _steps_and_needs(book):
    """A pair: for each case but the last one its step, and what weights need.

    Weights need that each row, numbers for the cases, has at least so much worth with them. A step is
    a list of pairs, one for each row: its number for the case, and its greatest one for later cases.
    """
    rows, needs = [], []
    for word, leans in demands_of(book.cases, book.sayings):
        rows.append(leans)
        needs.append(1 if word == "more" else 0)
        if word == "same":
            rows.append([-number for number in leans])
            needs.append(0)
    places = range(len(book.cases) - 1)
    return [[(row[place], max(row[place + 1:])) for row in rows] for place in places], needs


def _greatest(steps, place, needs, left):
    """The greatest weights of the cases from this place on, with the sum that is left; None if none fit."""
    least, most = _span(steps[place], needs, left)
    for weight in range(most, least - 1, -1):
        if place == len(steps) - 1:
            return (weight, left - weight)
        found = _greatest(steps, place + 1, _needs_after(steps[place], needs, weight), left - weight)
        if found is not None:
            return (weight, *found)
    return None


def _many(steps, place, needs, left):
    """How many weights of the cases from this place on, with the sum that is left, fit."""
    least, most = _span(steps[place], needs, left)
    if place == len(steps) - 1:
        return max(0, most - least + 1)
    return sum([
        _many(steps, place + 1, _needs_after(steps[place], needs, weight), left - weight)
        for weight in range(least, most + 1)
    ])


def _span(step, needs, left):
    """The least and the greatest weight that a case may have if all that is left were best for each row.

    For the last case but one this is so: all that is left goes to the last case.
    """
    least, most = 0, left
    for (here, later), need in zip(step, needs):
        missing = need - left * later
        gain = here - later
        if gain > 0:
            least = max(least, -(-missing // gain))
        elif gain < 0:
            most = min(most, -missing // -gain)
        elif missing > 0:
            most = -1
    return least, most


def _needs_after(step, needs, weight):
    """What the later cases need if a case has this weight."""
    return [need - weight * here for (here, _), need in zip(step, needs)]
