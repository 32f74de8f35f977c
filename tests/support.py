"""What several tests need: odd values, books, and the words of the document said a second time.

The second saying of points [7] and [8] uses Python's own fractions and shares no code with the
package, so that both cannot be wrong in the same way.
"""

import random
import unittest
from contextlib import contextmanager
from fractions import Fraction
from itertools import combinations

from likelybook import errors
from likelybook.books import Book

LETTERS = "abcdefghijklmnopqrstuvwxyz"
ATTRIBUTES = {
    "InvalidSayings": "index", "InvalidOdds": "index", "TooMany": "limit", "NoOdds": "balance", "InUse": "index",
}


class EqualToAll:
    """A value that says of itself to be equal to everything."""

    def __eq__(self, other):
        return True

    __hash__ = None


WRONG_CASES = [
    "a", "abcdefg", "ba", "aa", "aab", "abb", "acb", "aB", "AB", "a b", "ab ", " ab", "a-", "ab\n", "a1", "`a", "z{",
    ("a", "b"), ["a", "b"], "cases ab", 12,
]
WRONG_LOTS = ["d", "ad", "ba", "aa", "-", " ", "A", "a ", "acb", None, 0, b"a", ("a",), ["a"], EqualToAll()]
WRONG_NUMBERS = [True, False, None, 0, 1, -2, 10, 11, "2", (2,), [2], b"2", EqualToAll()]


class Raising(unittest.TestCase):
    """Tests of errors."""

    def error(self, kind, function, /, *values, **named):
        """The error that a call raises: of this class alone, and under one base class."""
        with self.assertRaises(kind) as caught:
            function(*values, **named)
        self.assertIs(type(caught.exception), kind)
        bases = (errors.BadValue, errors.BadName, errors.NoAnswer)
        self.assertEqual([isinstance(caught.exception, base) for base in bases].count(True), 1)
        return caught.exception

    def raised(self, kind, told, function, /, *values, **named):
        """A call raises an error that tells what was given, the index or the limit."""
        error = self.error(kind, function, *values, **named)
        attribute = ATTRIBUTES.get(kind.__name__, "given")
        if attribute == "given":
            self.assertIs(error.given, told)
        else:
            self.assertEqual(getattr(error, attribute), told)
            self.assertIs(type(getattr(error, attribute)), type(told))

    def no_odds(self, book, function, /, *values, **named):
        """A call raises NoOdds with a balance of the book."""
        self.assert_balance(book, self.error(errors.NoOdds, function, *values, **named).balance)

    def assert_balance(self, book, counts):
        """A value is a balance of the book."""
        self.assertIs(type(counts), tuple)
        self.assertEqual({type(count) for count in counts}, {int})
        self.assertTrue(balances(book, counts))

    def broken(self, index, shown, function, /, *values, **named):
        """A call raises Broken with this index, and with what is shown: if this is a book, a balance of it."""
        error = self.error(errors.Broken, function, *values, **named)
        self.assertEqual(error.index, index)
        if isinstance(shown, Book):
            self.assert_balance(shown, error.shown)
        else:
            self.assertEqual(error.shown, shown)
            self.assertIs(type(error.shown), type(shown))

    @contextmanager
    def unchanged(self, desk):
        """The rows do not change a desk."""
        before = all_of(desk)
        yield
        self.assertEqual(all_of(desk), before)


def all_of(desk):
    """All that a desk tells of itself at this time."""
    books = [(name, desk[name].text) for name in desk.titles]
    return books, desk.claims, desk.changes, len(desk)


def nested(depth):
    value = ()
    for _ in range(depth):
        value = (value,)
    return value


def odd_values():
    """Values of many kinds, none of which is cases, a lot but "", a saying, a fraction or a book."""
    return [
        None, True, False, 0, 1, -1, 10 ** 39, "", " ", "-", "A", "a b", "cases", "\n", b"", b"ab",
        (), (None,), ((),), ("a",), (1, 2, 3), nested(9), [], ["a", "b"], [("more", "a", "b")], {}, {"a": 1},
        set(), {1, 2}, frozenset("ab"), range(3), object(), EqualToAll(), len, str, Book, Exception("a"),
        lambda: 1, 1j, iter(()), ("more", "a"), ("more", ["a"], "b"), ((EqualToAll(), "a", "b"),),
    ]


def wrong_sayings():
    """Values that are no saying about the cases abc."""
    wrong = [value for value in odd_values()]
    for lot in WRONG_LOTS:
        wrong += [("more", lot, "b"), ("same", "b", lot), ("times", lot, "b", 2), ("times", "b", lot, 2)]
    wrong += [("times", "a", "b", number) for number in WRONG_NUMBERS]
    for word in ("less", "most", "open", "More", "", "-", "more ", None, 0, ("more",), b"more", EqualToAll()):
        wrong += [(word, "a", "b"), (word, "a", "b", 2)]
    for word in ("more", "least", "same"):
        wrong += [[word, "a", "b"], (word, "a"), (word,), (word, "a", "b", 2), (word, "a", "b", "c"), word + " a b"]
    wrong += [("times", "a", "b"), ("times", "a", "b", 2, 2), ["times", "a", "b", 2], ("times", "a", 2, "b")]
    return wrong


def lots(cases):
    return ["".join(some) for size in range(len(cases) + 1) for some in combinations(cases, size)]


def all_sayings(cases, numbers=range(2, 10)):
    """Each saying about the cases, "times" with these numbers."""
    pairs = [(left, right) for left in lots(cases) for right in lots(cases)]
    plain = [(word, left, right) for word in ("more", "least", "same") for left, right in pairs]
    return plain + [("times", left, right, number) for left, right in pairs for number in numbers]


def some_saying(rng, cases):
    word = rng.choice(("more", "least", "same", "times"))
    left, right = ("".join([case for case in cases if rng.random() < 0.5]) for _ in range(2))
    return (word, left, right, rng.randint(2, 9)) if word == "times" else (word, left, right)


def some_odds(rng, size):
    weights = [rng.choice((0, 1, 1, 2, 3, 5, 8)) for _ in range(size)]
    weights[rng.randrange(size)] += 1
    return tuple([pair(Fraction(weight, sum(weights))) for weight in weights])


def some_books(seed, many):
    """Books of all sizes; about each second one is made of sayings that hold in some odds."""
    rng = random.Random(seed)
    books = []
    for turn in range(many):
        cases = "".join(sorted(rng.sample(LETTERS, rng.randint(2, 6))))
        size = rng.randint(0, 12)
        odds = some_odds(rng, len(cases))
        sayings = []
        while len(sayings) < size:
            saying = some_saying(rng, cases)
            if turn % 2 or holds(cases, saying, odds) or rng.random() < 0.02:
                sayings.append(saying)
        books.append(Book(cases, tuple(sayings)))
    return books


def pair(number):
    number = Fraction(number)
    return (number.numerator, number.denominator)


def lot_odds(cases, odds, lot):
    return sum([Fraction(*odds[cases.index(case)]) for case in lot], Fraction(0))


def are_odds(cases, odds):
    """Whether a value is a tuple of fractions as the document wants them."""
    if type(odds) is not tuple or len(odds) != len(cases):
        return False
    for part in odds:
        if type(part) is not tuple or [type(number) for number in part] != [int, int]:
            return False
        if part[1] < 1 or part[0] < 0 or pair(Fraction(*part)) != part:
            return False
    return sum([Fraction(*part) for part in odds]) == 1


def holds(cases, saying, odds):
    left, right = lot_odds(cases, odds, saying[1]), lot_odds(cases, odds, saying[2])
    if saying[0] == "more":
        return left > right
    if saying[0] == "least":
        return left >= right
    if saying[0] == "same":
        return left == right
    return left >= saying[3] * right


def lean(saying, case):
    value = 1 if case in saying[1] else 0
    if case in saying[2]:
        value -= saying[3] if saying[0] == "times" else 1
    return value


def balances(book, counts):
    """Whether a tuple of integers is a balance, by the words of point [8]."""
    for saying, count in zip(book.sayings, counts, strict=True):
        if saying[0] != "same" and count < 0:
            return False
    sums = [sum([count * lean(saying, case) for saying, count in zip(book.sayings, counts)]) for case in book.cases]
    if not all([value <= 0 for value in sums]):
        return False
    more = [count for saying, count in zip(book.sayings, counts) if saying[0] == "more"]
    return any([count > 0 for count in more]) or all([value < 0 for value in sums])
