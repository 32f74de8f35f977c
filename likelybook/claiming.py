"""The claims of a desk, and whether they hold."""

from likelybook.fitting import balance
from likelybook.ratios import is_below, is_fraction
from likelybook.sayings import LETTERS, is_lot, is_plain_word
from likelybook.sure import least_odds, sure

# What two lots surely are where a saying with this word surely holds.
SURELY = {"more": ("more",), "least": ("more", "same", "least"), "same": ("same",)}


def is_claim(value):
    """Whether any value is a claim of a desk; what stands in the place of its name may be anything."""
    if not isinstance(value, tuple) or len(value) < 2 or not isinstance(value[0], str):
        return False
    word, _, *rest = value
    if word == "agrees":
        return not rest
    if word == "sure":
        return len(rest) == 3 and is_plain_word(rest[0]) and all([is_lot(LETTERS, lot) for lot in rest[1:]])
    return word == "from" and len(rest) == 2 and is_lot(LETTERS, rest[0]) and _is_part_of_one(rest[1])


def asked(book, claim):
    """A pair: whether a claim holds for the book that it speaks of; and what shows it if it does not."""
    word, _, *rest = claim
    found = balance(book)
    if word == "agrees":
        return found is None, found
    lots = rest[1:] if word == "sure" else rest[:1]
    if not all([is_lot(book.cases, lot) for lot in lots]):
        return False, None
    # All that is said of lots of the book holds in all odds that fit if there are none.
    if found is not None:
        return True, None
    return _asked_of_sure(book, *rest) if word == "sure" else _asked_of_least(book, *rest)


def _is_part_of_one(value):
    """Whether any value is a fraction from 0 to 1."""
    return is_fraction(value) and 0 <= value[0] <= value[1]


def _asked_of_sure(book, word, left, right):
    """Whether a saying surely holds, and what the lots surely are."""
    told = sure(book, left, right)
    return told in SURELY[word], told


def _asked_of_least(book, lot, part):
    """Whether the odds of a lot are surely at least a fraction, and the least odds."""
    told = least_odds(book, lot)
    return not is_below(told[0], part), told
