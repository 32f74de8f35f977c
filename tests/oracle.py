"""What is sure, said a second time by the corners of all odds in which sayings hold.

The corners are found by adding one saying after the other (the double description method), with
Python's own fractions. This shares no code with the package, which goes another way.
"""

from fractions import Fraction
from functools import lru_cache
from math import gcd

from tests.support import holds, lean, lot_odds, pair


@lru_cache(maxsize=100)
def corners(cases, sayings):
    """The corners of the odds in which all sayings hold, "more" taken for "least": tuples of Fractions."""
    rows = []
    points = [tuple([int(at == place) for at in range(len(cases))]) for place in range(len(cases))]
    for saying in sayings:
        leans = [lean(saying, case) for case in cases]
        for row in ([leans, [-number for number in leans]] if saying[0] == "same" else [leans]):
            points = cut(points, rows, row)
            rows.append(row)
    return [tuple([Fraction(number, sum(point)) for number in point]) for point in points]


def cut(points, rows, row):
    """The corners that are left, and those that are new, if a row more is not to be below 0."""
    worth = {point: worth_of(row, point) for point in points}
    edges = {point: edges_of(rows, point) for point in points}
    left = [point for point in points if worth[point] >= 0]
    for above in points:
        for below in points:
            if worth[above] > 0 > worth[below]:
                common = edges[above] & edges[below]
                if not any([common <= edges[other] for other in points if other not in (above, below)]):
                    left.append(between(above, worth[above], below, worth[below]))
    return left


def worth_of(row, point):
    return sum([one * other for one, other in zip(row, point)])


def edges_of(rows, point):
    """All that is just 0 at a corner: the cases, and the rows."""
    cases = {("case", at) for at, number in enumerate(point) if number == 0}
    return cases | {("row", at) for at, row in enumerate(rows) if worth_of(row, point) == 0}


def between(above, high, below, low):
    """The point between two corners at which a row, worth high and low there, is just 0."""
    point = [high * other - low * one for one, other in zip(above, below)]
    shared = gcd(*point)
    return tuple([number // shared for number in point])


def middle_fits(cases, sayings, points):
    """Whether the odds in the middle of some corners exist, and all sayings hold in them."""
    if not points:
        return False
    middle = [pair(sum(parts) / len(points)) for parts in zip(*points)]
    return all([holds(cases, saying, middle) for saying in sayings])


def some_fit(cases, sayings):
    # If a strict saying holds anywhere it holds in the middle of all corners.
    return middle_fits(cases, sayings, corners(cases, sayings))


def odds_at(cases, point, lot):
    return lot_odds(cases, [pair(part) for part in point], lot)


def word(cases, sayings, left, right):
    """What the first lot surely is, where some odds fit."""
    points = corners(cases, sayings)
    leads = [odds_at(cases, point, left) - odds_at(cases, point, right) for point in points]
    if min(leads) < 0 < max(leads):
        return "open"
    level = [point for point, lead in zip(points, leads) if lead == 0]
    if not middle_fits(cases, sayings, level):
        return "more" if max(leads) > 0 else "less"
    if max(leads) > 0:
        return "least"
    return "most" if min(leads) < 0 else "same"


def bound(cases, sayings, lot, which):
    """The least (min) or greatest (max) odds of a lot, and whether they are reached."""
    points = corners(cases, sayings)
    told = which([odds_at(cases, point, lot) for point in points])
    there = [point for point in points if odds_at(cases, point, lot) == told]
    return pair(told), middle_fits(cases, sayings, there)


def times(cases, sayings, left, right):
    """The least times of two lots, None if there are none."""
    points = [point for point in corners(cases, sayings) if odds_at(cases, point, right) > 0]
    if not points:
        return None
    return pair(min([odds_at(cases, point, left) / odds_at(cases, point, right) for point in points]))


def given(cases, sayings, lot, known):
    """The least and the greatest odds of a lot given another one, (None, None) if there are none."""
    points = [point for point in corners(cases, sayings) if odds_at(cases, point, known) > 0]
    if not points:
        return None, None
    both = "".join([case for case in lot if case in known])
    parts = [odds_at(cases, point, both) / odds_at(cases, point, known) for point in points]
    return pair(min(parts)), pair(max(parts))


def always_holds(cases, sayings, saying):
    """Whether a saying holds in all odds in which the sayings hold; these hold in some."""
    points = corners(cases, sayings)
    leads = [worth_of([lean(saying, case) for case in cases], point) for point in points]
    if saying[0] == "same":
        return min(leads) == max(leads) == 0
    level = [point for point, lead in zip(points, leads) if lead == 0]
    return min(leads) >= 0 and (saying[0] != "more" or not middle_fits(cases, sayings, level))
