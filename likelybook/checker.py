"""Whether papers show that claims are true."""

from likelybook.books import Book
from likelybook.errors import InvalidOdds, InvalidText
from likelybook.fitting import failing
from likelybook.leaning import is_balance_of, lean
from likelybook.orders import is_order, order
from likelybook.ratios import is_fraction, over_whole
from likelybook.sayings import are_cases, denial, is_lot

SURE_WORDS = ("more", "least")


def accepts(claim, paper):
    """Whether any value is a claim for the checker, and any value a paper for it."""
    if not isinstance(claim, tuple) or len(claim) < 2 or not isinstance(claim[0], str):
        return False
    word, told, *rest = claim
    if word == "order":
        return len(rest) == 1 and _shows_order(told, rest[0], paper)
    book = _read(told)
    if book is None:
        return False
    if word == "odds":
        return not rest and _shows_odds(book, paper)
    if word == "none":
        return not rest and is_balance_of(book.cases, book.sayings, paper)
    if word == "sure":
        return len(rest) == 3 and _shows_sure(book, *rest, paper)
    return word == "from" and len(rest) == 2 and _shows_from(book, *rest, paper)


def is_sure_word(value):
    """Whether any value is a word of claims of what is sure."""
    return isinstance(value, str) and value in SURE_WORDS


def _read(text):
    """The book that has any value as its text, None if there is none."""
    try:
        return Book.read(text)
    except InvalidText:
        return None


def _shows_odds(book, paper):
    """Whether any value is odds that fit a book."""
    try:
        return failing(book, paper) is None
    except InvalidOdds:
        return False


def _shows_sure(book, word, left, right, paper):
    """Whether any value shows that a saying, also any value, surely holds."""
    if not is_sure_word(word) or not is_lot(book.cases, left) or not is_lot(book.cases, right):
        return False
    return is_balance_of(book.cases, book.sayings + (denial(word, left, right),), paper)


def _shows_from(book, lot, part, paper):
    """Whether any value shows that a lot surely has at least these odds, also any values."""
    if not is_lot(book.cases, lot) or not is_fraction(part) or not _are_shares(book.sayings, paper):
        return False
    amounts, whole = over_whole([*paper, part])
    for case in book.cases:
        total = sum([amount * lean(saying, case) for saying, amount in zip(book.sayings, amounts)])
        # The last amount is the one of the least odds.
        if total > (whole if case in lot else 0) - amounts[-1]:
            return False
    return True


def _are_shares(sayings, value):
    """Whether any value is fractions, one for each saying, that may be taken of them."""
    if not isinstance(value, tuple) or len(value) != len(sayings) or not all([is_fraction(share) for share in value]):
        return False
    return all([saying[0] == "same" or share[0] >= 0 for saying, share in zip(sayings, value)])


def _shows_order(cases, told, paper):
    """Whether any value is odds that give an order of cases, also any values."""
    if not are_cases(cases) or not is_order(cases, told):
        return False
    try:
        return order(cases, paper) == told
    except InvalidOdds:
        return False
