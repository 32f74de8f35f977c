"""The checker, said a second time by the words of point [13]: with patterns and Python's own fractions."""

import re
from fractions import Fraction

from tests.support import are_odds, holds, lean, lot_odds, lots

LOT = "(-|[a-z]+)"
SAYING = re.compile(f"(more|least|same) {LOT} {LOT}|(times) {LOT} {LOT} ([2-9])")


def ascending(word):
    return all([low < high for low, high in zip(word, word[1:])])


def book_of(text):
    """The cases and sayings of a text, None if it is no text of a book."""
    if type(text) is not str or not re.fullmatch("cases [a-z]{2,6}(\n[^\n]+){0,12}", text):
        return None
    head, *lines = text.split("\n")
    cases = head[6:]
    matches = [SAYING.fullmatch(line) for line in lines]
    if not ascending(cases) or None in matches:
        return None
    sayings = []
    for match in matches:
        word, left, right, *rest = [part for part in match.groups() if part is not None]
        left, right = left.replace("-", ""), right.replace("-", "")
        if left not in lots(cases) or right not in lots(cases):
            return None
        sayings.append((word, left, right, *[int(part) for part in rest]))
    return cases, tuple(sayings)


def is_row(value, many):
    return type(value) is tuple and len(value) == many


def is_part(value):
    """Whether a value is a fraction."""
    if not is_row(value, 2) or [type(number) for number in value] != [int, int] or value[1] < 1:
        return False
    told = Fraction(*value)
    return (told.numerator, told.denominator) == value


def is_balance(cases, sayings, paper):
    if not is_row(paper, len(sayings)) or not all([type(count) is int for count in paper]):
        return False
    if any([count < 0 and saying[0] != "same" for saying, count in zip(sayings, paper)]):
        return False
    sums = [sum([count * lean(saying, case) for saying, count in zip(sayings, paper)]) for case in cases]
    if not all([value <= 0 for value in sums]):
        return False
    return any([saying[0] == "more" and count > 0 for saying, count in zip(sayings, paper)]) or max(sums) < 0


def is_lot(cases, value):
    return type(value) is str and value in lots(cases)


def odds_accepted(text, paper):
    cases, sayings = book_of(text)
    return are_odds(cases, paper) and all([holds(cases, saying, paper) for saying in sayings])


def none_accepted(text, paper):
    return is_balance(*book_of(text), paper)


def sure_accepted(text, word, left, right, paper):
    cases, sayings = book_of(text)
    if not is_lot(cases, left) or not is_lot(cases, right) or type(word) is not str:
        return False
    if word == "more":
        return is_balance(cases, sayings + (("least", right, left),), paper)
    return word == "least" and is_balance(cases, sayings + (("more", right, left),), paper)


def from_accepted(text, lot, part, paper):
    cases, sayings = book_of(text)
    if not is_lot(cases, lot) or not is_part(part) or not is_row(paper, len(sayings)):
        return False
    if not all([is_part(share) for share in paper]):
        return False
    if any([share[0] < 0 and saying[0] != "same" for saying, share in zip(sayings, paper)]):
        return False
    for case in cases:
        total = sum([Fraction(*share) * lean(saying, case) for saying, share in zip(sayings, paper)])
        if total > (1 if case in lot else 0) - Fraction(*part):
            return False
    return True


def order_accepted(cases, told, paper):
    if book_of("cases " + cases if type(cases) is str else None) is None or type(told) is not tuple:
        return False
    for group in told:
        if type(group) is not tuple or not group or not all([is_lot(cases, lot) for lot in group]):
            return False
        if not all([low < high for low, high in zip(group, group[1:])]):
            return False
    if sorted([lot for group in told for lot in group]) != sorted(lots(cases)) or not are_odds(cases, paper):
        return False
    worth = [{lot_odds(cases, paper, lot) for lot in group} for group in told]
    return all([len(group) == 1 for group in worth]) and ascending([min(group) for group in worth])


KINDS = {
    "odds": (2, odds_accepted), "none": (2, none_accepted), "sure": (5, sure_accepted), "from": (4, from_accepted),
    "order": (3, order_accepted),
}


def accepted(claim, paper):
    """Whether a value is a claim for the checker, and a value a paper for it."""
    if type(claim) is not tuple or not claim or type(claim[0]) is not str or claim[0] not in KINDS:
        return False
    length, judge = KINDS[claim[0]]
    if len(claim) != length or (claim[0] != "order" and book_of(claim[1]) is None):
        return False
    return judge(*claim[1:], paper)
