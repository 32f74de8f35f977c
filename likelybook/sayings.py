"""Cases, lots and sayings, and the lines that tell them; and names."""

from likelybook.limits import MOST_CASES, MOST_TIMES
from likelybook.ratios import is_integer

LETTERS = "abcdefghijklmnopqrstuvwxyz"
LEAST_CASES = 2
LEAST_TIMES = 2
MOST_LETTERS = 8
PLAIN_WORDS = ("more", "least", "same")
NONE_WORD = "-"


def is_lot(cases, value):
    """Whether any value is a string of some of the cases, ascending."""
    # As the cases are ascending, a lot is told by its letters alone.
    return isinstance(value, str) and value == "".join([case for case in cases if case in value])


def lots_of(cases):
    """All lots of the cases, an ascending list."""
    lots = [""]
    for case in cases:
        lots = lots + [lot + case for lot in lots]
    return sorted(lots)


def shared(lot, other):
    """The cases of a lot that are in another one."""
    return "".join([case for case in lot if case in other])


def unshared(lot, other):
    """The cases of a lot that are not in another one."""
    return "".join([case for case in lot if case not in other])


def marks(cases, lot):
    """A list with a 1 for each case that is in the lot, a 0 for each other one."""
    return [1 if case in lot else 0 for case in cases]


def are_letters(word):
    """Whether a string has letters, from a to z, alone, one or more."""
    return word != "" and all([letter in LETTERS for letter in word])


def is_name(value):
    """Whether any value is a name."""
    return isinstance(value, str) and are_letters(value) and len(value) <= MOST_LETTERS


def are_cases(value):
    """Whether any value is the cases of a book."""
    return is_lot(LETTERS, value) and LEAST_CASES <= len(value) <= MOST_CASES


def is_saying(cases, value):
    """Whether any value is a saying about the cases."""
    if not isinstance(value, tuple) or len(value) < 3:
        return False
    word, left, right, *rest = value
    # Only strings are compared with the words: other values may have an equality of their own.
    if not isinstance(word, str) or not is_lot(cases, left) or not is_lot(cases, right):
        return False
    if word == "times":
        return len(rest) == 1 and is_integer(rest[0]) and LEAST_TIMES <= rest[0] <= MOST_TIMES
    return word in PLAIN_WORDS and not rest


def is_plain_word(value):
    """Whether any value is the word of a saying that has two lots alone."""
    return isinstance(value, str) and value in PLAIN_WORDS


def denial(word, left, right):
    """The saying that holds just where this one, with the word "more" or "least", does not."""
    return ("least" if word == "more" else "more", right, left)


def line_of(saying):
    """The line that tells a saying."""
    word, left, right, *rest = saying
    return " ".join([word, left or NONE_WORD, right or NONE_WORD] + [str(times) for times in rest])


def told_by(line):
    """The tuple that a line tells if it is the line of a saying, otherwise any tuple."""
    word, *parts = line.split(" ")
    numbers = {str(times): times for times in range(LEAST_TIMES, MOST_TIMES + 1)}
    lots = ["" if part == NONE_WORD else part for part in parts[:2]]
    rest = [numbers.get(part, part) for part in parts[2:]]
    return (word, *lots, *rest)
