"""Orders of all lots of some cases, from the least to the most likely ones."""

from likelybook.books import check_cases
from likelybook.errors import InvalidOrder, TooMany
from likelybook.fitting import check_odds
from likelybook.ratios import over_whole
from likelybook.sayings import is_lot, lots_of, unshared
from likelybook.solving import odds_or_balance

MOST_COUNTED = 4


def order(cases, odds):
    """The order that odds give."""
    check_cases(cases)
    check_odds(cases, odds)
    amounts, _ = over_whole(odds)
    groups = {}
    for lot in lots_of(cases):
        total = sum([amount for case, amount in zip(cases, amounts) if case in lot])
        groups.setdefault(total, []).append(lot)
    return tuple([tuple(groups[total]) for total in sorted(groups)])


def is_order(cases, value):
    """Whether any value is an order."""
    check_cases(cases)
    return _is_order(cases, value)


def is_plain(cases, value):
    """Whether any value is a plain order."""
    check_cases(cases)
    if not _is_order(cases, value):
        return False
    places = {lot: place for place, group in enumerate(value) for lot in group}
    if places[""] != 0 or places[cases] == 0:
        return False
    # A lot joins any two others without a change if each of its cases does, one after the other.
    return all([_joins_plainly(places, case) for case in cases])


def giving(cases, order):
    """Any odds that give an order, None if there are none."""
    check_cases(cases)
    _check_order(cases, order)
    found, _ = odds_or_balance(cases, _sayings_of(order))
    return found


def sayings_of(cases, order):
    """Sayings that hold in just those odds that give an order."""
    check_cases(cases)
    _check_order(cases, order)
    return _sayings_of(order)


def count_plain(cases):
    """How many plain orders there are in which each group has one lot."""
    check_cases(cases)
    if len(cases) > MOST_COUNTED:
        raise TooMany(MOST_COUNTED)
    # Each case can be the least likely one, in as many orders as any other one.
    return len(cases) * _many_behind(["", cases[0]], lots_of(cases))


def _check_order(cases, order):
    """Raises InvalidOrder if a value is no order of the cases."""
    if not _is_order(cases, order):
        raise InvalidOrder(order)


def _is_order(cases, value):
    """Whether any value is an order of what surely is cases."""
    if not isinstance(value, tuple) or not all([_is_group(cases, group) for group in value]):
        return False
    return sorted([lot for group in value for lot in group]) == lots_of(cases)


def _is_group(cases, value):
    """Whether any value is a tuple of one or more lots, ascending."""
    if not isinstance(value, tuple) or not value:
        return False
    if not all([is_lot(cases, lot) for lot in value]):
        return False
    return all([lot < behind for lot, behind in zip(value, value[1:])])


def _joins_plainly(places, case):
    """Whether any two lots without a case stand to one another as they do with it."""
    # The pairs are ascending by the places without the case. They are to be so by those with it, too,
    # and none may have a place in common with another one that is not the same pair.
    pairs = sorted({(places[lot], places[_joined(lot, case)]) for lot in places if case not in lot})
    return all([low[0] < high[0] and low[1] < high[1] for low, high in zip(pairs, pairs[1:])])


def _joined(lot, case):
    """A lot with one case more."""
    return "".join(sorted(lot + case))


def _sayings_of(order):
    """A tuple of sayings that hold in just those odds that give an order."""
    within = [("same", group[0], lot) for group in order for lot in group[1:]]
    between = [("more", behind[0], group[0]) for group, behind in zip(order, order[1:])]
    return tuple(within + between)


def _many_behind(row, lots):
    """How many plain orders of single lots begin with this row of lots."""
    if len(row) == len(lots):
        return 1
    return sum([_many_behind(row + [lot], lots) for lot in lots if _may_follow(row, lot)])


def _may_follow(row, lot):
    """Whether a lot may stand next in a row of single lots that is the beginning of a plain order."""
    told = row + [lot]
    # Its own lots come ahead of it: then all that two lots do not share stands in the row, too.
    if lot in row or not all([part in told for part in lots_of(lot)]):
        return False
    return all([told.index(unshared(other, lot)) < told.index(unshared(lot, other)) for other in row])
