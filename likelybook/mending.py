"""What is to be struck from a book, what may be said in it, and what it leaves open."""

from likelybook.books import check_book, check_saying
from likelybook.errors import TooMany
from likelybook.fitting import check_fits, may_hold
from likelybook.leaning import demands_of, opposites
from likelybook.limits import MOST_OPEN
from likelybook.sayings import lots_of, shared
from likelybook.solving import can_hold, odds_or_balance


def strikes(book):
    """All lots of as few sayings as can be, as tuples of indexes, without which some odds fit."""
    check_book(book)
    conflicts = []
    choices = [()]
    while True:
        found = []
        for choice in choices:
            if _meets_all(choice, conflicts):
                conflict = _conflict(book, choice)
                if conflict is None:
                    found.append(choice)
                else:
                    conflicts.append(conflict)
        if found:
            return tuple(found)
        choices = _longer(choices, len(book))


def may_say(book, saying):
    """Whether some odds fit the book with this saying, too."""
    check_book(book)
    check_saying(book.cases, saying)
    return may_hold(book, saying)


def needless(book):
    """The indexes of all sayings that hold in all odds that fit the book without them."""
    check_book(book)
    check_fits(book)
    return tuple([index for index in range(len(book)) if _is_needless(book, index)])


def open_pairs(book):
    """All pairs of lots, not empty and without a common case, of which nothing is sure."""
    check_book(book)
    if len(book.cases) > MOST_OPEN:
        raise TooMany(MOST_OPEN)
    check_fits(book)
    lots = [lot for lot in lots_of(book.cases) if lot]
    pairs = [(left, right) for left in lots for right in lots if left < right and not shared(left, right)]
    return tuple([(left, right) for left, right in pairs if _is_open(book, left, right)])


def _meets_all(choice, conflicts):
    """Whether a choice of indexes has one of each conflict."""
    return all([any([index in choice for index in conflict]) for conflict in conflicts])


def _conflict(book, choice):
    """The indexes of some sayings, none of them of the choice, that no odds bear; None if odds bear all others."""
    kept = [index for index in range(len(book)) if index not in choice]
    _, counts = odds_or_balance(book.cases, [book.sayings[index] for index in kept])
    if counts is None:
        return None
    # What a balance does not take is not needed for the conflict.
    return [index for index, count in zip(kept, counts) if count != 0]


def _longer(choices, many):
    """All choices, ordered as tuples, with one index more than all of these, which are all of their length."""
    return [choice + (index,) for choice in choices for index in range(many) if not choice or index > choice[-1]]


def _is_needless(book, index):
    """Whether a saying holds in all odds that fit the others."""
    demands = demands_of(book.cases, book.sayings)
    others = demands[:index] + demands[index + 1:]
    return not any([can_hold(len(book.cases), others + [demand]) for demand in opposites(demands[index])])


def _is_open(book, left, right):
    """Whether either of two lots may be the likelier one."""
    return may_hold(book, ("more", left, right)) and may_hold(book, ("more", right, left))
