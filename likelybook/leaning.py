"""To which side sayings lean, what they demand, when they hold, and what a balance of them is.

A demand is a pair of a word and the list of the leans for the cases: the sum of all leans, each times
the odds of its case, is above 0 ("more"), 0 ("same"), or not below 0 ("least").
"""

from likelybook.ratios import is_integer


def lean(saying, case):
    """The lean of a saying for a case."""
    word, left, right, *rest = saying
    times = rest[0] if word == "times" else 1
    return (1 if case in left else 0) - (times if case in right else 0)


def demands_of(cases, sayings):
    """The list of what sayings demand, one for each."""
    return [(_demanded(saying[0]), [lean(saying, case) for case in cases]) for saying in sayings]


def opposites(demand):
    """The demands of which one holds just where this one does not."""
    word, leans = demand
    turned = [-number for number in leans]
    if word == "more":
        return [("least", turned)]
    if word == "same":
        return [("more", leans), ("more", turned)]
    return [("more", turned)]


def holds(saying, cases, amounts):
    """Whether a saying holds in the odds that are these integers, one for each case, by their sum."""
    surplus = sum([lean(saying, case) * amount for case, amount in zip(cases, amounts)])
    if saying[0] == "more":
        return surplus > 0
    if saying[0] == "same":
        return surplus == 0
    return surplus >= 0


def is_balance_of(cases, sayings, counts):
    """Whether any value is a balance of the sayings, of which there may be more than in a book."""
    if not isinstance(counts, tuple) or len(counts) != len(sayings):
        return False
    if not all([_may_count(saying, count) for saying, count in zip(sayings, counts)]):
        return False
    sums = [sum([count * lean(saying, case) for saying, count in zip(sayings, counts)]) for case in cases]
    if any([saying[0] == "more" and count > 0 for saying, count in zip(sayings, counts)]):
        return max(sums) <= 0
    return max(sums) < 0


def _demanded(word):
    """The word of the demand of a saying with this word."""
    return "least" if word == "times" else word


def _may_count(saying, count):
    """Whether any value may stand in a balance for this saying."""
    return is_integer(count) and (saying[0] == "same" or count >= 0)
