"""Odds in which all sayings hold, or a balance, found by the simplex method over integers.

Columns, one for each saying, with its leans for the cases, are taken some times each so that for
no case their sum gets above 0. To take a saying with the word "more" gains 1. One column more, a 1
for each case, gains 1, too: it can be taken only if the sums of the others are below 0 for each
case. So the sayings that are taken are a balance if anything is gained. If nothing can be gained,
there are prices of the cases at which no column has less worth than it gains: but for their sum,
which the last column keeps above 0, they are odds.
"""

from likelybook.leaning import lean
from likelybook.ratios import common_multiple, fraction, shortened


def odds_or_balance(cases, sayings):
    """A pair: odds in which all sayings hold, and None; or None, and a balance of the sayings."""
    sides = [(index, 1) for index in range(len(sayings))]
    # "same" may also be taken less than no times, as its reverse.
    sides = sides + [(index, -1) for index, saying in enumerate(sayings) if saying[0] == "same"]
    columns = [[sign * lean(sayings[index], case) for case in cases] for index, sign in sides]
    gains = [1 if sayings[index][0] == "more" else 0 for index, sign in sides]
    counts, prices = _gained(columns + [[1] * len(cases)], gains + [1])
    if counts is None:
        total = sum(prices)
        return tuple([fraction(price, total) for price in prices]), None
    totals = [0] * len(sayings)
    for (index, sign), count in zip(sides, counts):
        totals[index] += sign * count
    return None, tuple(shortened(totals))


def _gained(columns, gains):
    """A pair: how many times each column is taken to gain, and None; or None, and prices."""
    width, height = len(columns), len(columns[0])
    # Behind the columns there is one for each case, which takes up what its sum is below 0.
    table = [[column[row] for column in columns] + _unit(height, row) for row in range(height)]
    goal = gains + [0] * height
    basis = list(range(width, width + height))
    while True:
        entering = _first_above(goal)
        if entering is None:
            return None, [-gain for gain in goal[width:]]
        leaving = _leaving(table, basis, entering)
        if leaving is None:
            return _ray(table, basis, entering)[:width], None
        by = table[leaving]
        for row in range(height):
            if row != leaving:
                table[row] = _cleared(table[row], by, entering)
        goal = _cleared(goal, by, entering)
        basis[leaving] = entering


def _unit(height, row):
    """A list with a 1 at one place, otherwise of 0."""
    return [1 if at == row else 0 for at in range(height)]


def _first_above(goal):
    """The first column that gains, None if there is none."""
    # The first one, here and below, is Bland's rule: it keeps the method from going in circles.
    for at, gain in enumerate(goal):
        if gain > 0:
            return at
    return None


def _leaving(table, basis, entering):
    """The row that keeps a column from being taken without end, None if there is none."""
    rows = [row for row in range(len(table)) if table[row][entering] > 0]
    return min(rows, key=lambda row: basis[row], default=None)


def _cleared(numbers, by, at):
    """Some times of a row, less some times of another row, so that there is 0 at a place."""
    # The other row is above 0 at this place, so that the first one keeps its sign.
    return shortened([by[at] * number - numbers[at] * other for number, other in zip(numbers, by)])


def _ray(table, basis, entering):
    """How many times each column is taken if this one can be taken without end."""
    whole = common_multiple([row[at] for row, at in zip(table, basis)])
    counts = [0] * len(table[0])
    counts[entering] = whole
    for row, at in zip(table, basis):
        counts[at] = -row[entering] * (whole // row[at])
    return counts
