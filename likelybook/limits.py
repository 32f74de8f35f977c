"""How many, how long, how great: the limits of this package."""

MOST_CASES = 6
MOST_SAYINGS = 12
MOST_TIMES = 9
MOST_TOTAL = 30
MOST_OPEN = 5
