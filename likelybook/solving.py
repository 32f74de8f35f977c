"""What odds can do and what they surely do, found by the simplex method over integers.

Demands (see leaning) have columns: their leans for the cases. Columns are taken some times each,
as often as the limits of the cases, one for each, bear: the sum of all that is taken may not get
above them. To take a column gains something. Either a column can be taken without end, and gains
without end; or nothing more can be gained, and there are prices of the cases at which no column
has less worth than it gains, and at which the limits have just the worth of what is gained.
"""

from likelybook.leaning import demands_of
from likelybook.ratios import common_multiple, fraction, shortened


def odds_or_balance(cases, sayings):
    """A pair: odds in which all sayings hold, and None; or None, and a balance of the sayings."""
    return _odds_or_counts(len(cases), demands_of(cases, sayings))


def can_hold(size, demands):
    """Whether all demands hold in some odds of so many cases."""
    found, _ = _odds_or_counts(size, demands)
    return found is not None


def least_multiple(demands, above, below):
    """The greatest fraction so that one lot is surely at least so many times as likely as another one.

    The lots, above and below, are lists with a 1 for each case that is in the lot, a 0 for each other
    one. All demands have to hold in some odds. Behind the fraction stands the list of the shares, one
    for each demand, that show it: for each case the sum of all leans, each times the share of its
    demand, is at most what the lot above has, less the fraction times what the lot below has. Both
    are None if the lot below surely has the odds 0.
    """
    columns, sides = _columns(demands)
    # The lot below is taken, next to the demands, as many times as the lot above bears.
    gains = [0] * len(columns) + [1]
    table, basis, _, entering = _solved(columns + [below], gains, above)
    if entering is not None:
        return None, None
    shares = [(0, 1)] * len(demands)
    least = None
    for row, at in zip(table, basis):
        if at < len(sides):
            index, sign = sides[at]
            # The two sides of "same" are never in the basis together.
            shares[index] = fraction(sign * row[-1], row[at])
        elif at == len(sides):
            # As nothing else gains the lot below enters the basis first, and never leaves it.
            least = fraction(row[-1], row[at])
    return least, shares


def _odds_or_counts(size, demands):
    """A pair: odds of so many cases, and None; or None, and how many times each demand is taken in a balance."""
    columns, sides = _columns(demands)
    # A demand with the word "more" gains. One column more, a 1 for each case, gains, too: with the
    # limits 0 it can be taken only if the sums of the others are below 0 for each case. So what is
    # taken to gain is a balance. If nothing can be gained the prices are odds but for their sum,
    # which this column keeps above 0.
    gains = [1 if demands[index][0] == "more" else 0 for index, _ in sides]
    table, basis, goal, entering = _solved(columns + [[1] * size], gains + [1], [0] * size)
    if entering is None:
        prices = [-gain for gain in goal[len(columns) + 1:-1]]
        total = sum(prices)
        return tuple([fraction(price, total) for price in prices]), None
    counts = [0] * len(demands)
    for (index, sign), count in zip(sides, _ray(table, basis, entering)):
        counts[index] += sign * count
    return None, tuple(shortened(counts))


def _columns(demands):
    """A pair: the columns of the demands, and for each column the index of its demand and 1 or -1."""
    sides = [(index, 1) for index in range(len(demands))]
    # "same" may also be taken less than no times, as its reverse.
    sides = sides + [(index, -1) for index, demand in enumerate(demands) if demand[0] == "same"]
    return [[sign * number for number in demands[index][1]] for index, sign in sides], sides


def _solved(columns, gains, limits):
    """The table, its basis and its goal at the end, and the column that gains without end, None if there is none."""
    width, height = len(columns), len(limits)
    # Behind the columns there is one for each case, which takes up what its sum is below its limit.
    table = [[column[row] for column in columns] + _unit(height, row) + [limits[row]] for row in range(height)]
    goal = gains + [0] * (height + 1)
    basis = list(range(width, width + height))
    while True:
        entering = _first_above(goal[:-1])
        leaving = None if entering is None else _leaving(table, basis, entering)
        if leaving is None:
            return table, basis, goal, entering
        by = table[leaving]
        for row in range(height):
            if row != leaving:
                table[row] = _cleared(table[row], by, entering)
        goal = _cleared(goal, by, entering)
        basis[leaving] = entering


def _unit(height, row):
    """A list with a 1 at one place, otherwise of 0."""
    return [1 if at == row else 0 for at in range(height)]


def _first_above(goal):
    """The first column that gains, None if there is none."""
    # The first one, here and below, is Bland's rule: it keeps the method from going in circles.
    for at, gain in enumerate(goal):
        if gain > 0:
            return at
    return None


def _leaving(table, basis, entering):
    """The row that first keeps a column from being taken more often, None if there is none."""
    found = None
    for row in range(len(table)):
        if table[row][entering] > 0 and (found is None or _is_sooner(table, basis, entering, row, found)):
            found = row
    return found


def _is_sooner(table, basis, entering, row, other):
    """Whether a row keeps a column sooner than another row does from being taken more often."""
    mine = table[row][-1] * table[other][entering]
    its = table[other][-1] * table[row][entering]
    return (mine, basis[row]) < (its, basis[other])


def _cleared(numbers, by, at):
    """Some times of a row, less some times of another row, so that there is 0 at a place."""
    # The other row is above 0 at this place, so that the first one keeps its sign.
    return shortened([by[at] * number - numbers[at] * other for number, other in zip(numbers, by)])


def _ray(table, basis, entering):
    """How many times each column is taken if this one can be taken without end."""
    whole = common_multiple([row[at] for row, at in zip(table, basis)])
    counts = [0] * len(table[0])
    counts[entering] = whole
    for row, at in zip(table, basis):
        counts[at] = -row[entering] * (whole // row[at])
    return counts
