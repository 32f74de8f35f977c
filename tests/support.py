"""What several tests need: odd values, books, and the words of the document said a second time.

The second saying of points [7] and [8] uses Python's own fractions and shares no code with the
package, so that both cannot be wrong in the same way.
"""

import random
from fractions import Fraction
from itertools import combinations

from likelybook.books import Book

LETTERS = "abcdefghijklmnopqrstuvwxyz"


class EqualToAll:
    """A value that says of itself to be equal to everything."""

    def __eq__(self, other):
        return True

    __hash__ = None


def nested(depth):
    value = ()
    for _ in range(depth):
        value = (value,)
    return value


def odd_values():
    """Values of many kinds, none of which is cases, a lot but "", a saying, a fraction or a book."""
    return [
        None, True, False, 0, 1, -1, 10 ** 39, "", " ", "-", "A", "a b", "cases", "\n", b"", b"ab",
        (), (None,), ((),), ("a",), (1, 2, 3), nested(9), [], ["a", "b"], [("more", "a", "b")], {}, {"a": 1},
        set(), {1, 2}, frozenset("ab"), range(3), object(), EqualToAll(), len, str, Book, Exception("a"),
        lambda: 1, 1j, iter(()), ("more", "a"), ("more", ["a"], "b"), ((EqualToAll(), "a", "b"),),
    ]


def lots(cases):
    return ["".join(some) for size in range(len(cases) + 1) for some in combinations(cases, size)]


def all_sayings(cases, numbers=range(2, 10)):
    """Each saying about the cases, "times" with these numbers."""
    pairs = [(left, right) for left in lots(cases) for right in lots(cases)]
    plain = [(word, left, right) for word in ("more", "least", "same") for left, right in pairs]
    return plain + [("times", left, right, number) for left, right in pairs for number in numbers]


def some_saying(rng, cases):
    word = rng.choice(("more", "least", "same", "times"))
    left, right = ("".join([case for case in cases if rng.random() < 0.5]) for _ in range(2))
    return (word, left, right, rng.randint(2, 9)) if word == "times" else (word, left, right)


def some_odds(rng, size):
    weights = [rng.choice((0, 1, 1, 2, 3, 5, 8)) for _ in range(size)]
    weights[rng.randrange(size)] += 1
    return tuple([pair(Fraction(weight, sum(weights))) for weight in weights])


def some_books(seed, many):
    """Books of all sizes; about each second one is made of sayings that hold in some odds."""
    rng = random.Random(seed)
    books = []
    for turn in range(many):
        cases = "".join(sorted(rng.sample(LETTERS, rng.randint(2, 6))))
        size = rng.randint(0, 12)
        odds = some_odds(rng, len(cases))
        sayings = []
        while len(sayings) < size:
            saying = some_saying(rng, cases)
            if turn % 2 or holds(cases, saying, odds) or rng.random() < 0.02:
                sayings.append(saying)
        books.append(Book(cases, tuple(sayings)))
    return books


def pair(number):
    number = Fraction(number)
    return (number.numerator, number.denominator)


def lot_odds(cases, odds, lot):
    return sum([Fraction(*odds[cases.index(case)]) for case in lot], Fraction(0))


def are_odds(cases, odds):
    """Whether a value is a tuple of fractions as the document wants them."""
    if type(odds) is not tuple or len(odds) != len(cases):
        return False
    for part in odds:
        if type(part) is not tuple or [type(number) for number in part] != [int, int]:
            return False
        if part[1] < 1 or part[0] < 0 or pair(Fraction(*part)) != part:
            return False
    return sum([Fraction(*part) for part in odds]) == 1


def holds(cases, saying, odds):
    left, right = lot_odds(cases, odds, saying[1]), lot_odds(cases, odds, saying[2])
    if saying[0] == "more":
        return left > right
    if saying[0] == "least":
        return left >= right
    if saying[0] == "same":
        return left == right
    return left >= saying[3] * right


def lean(saying, case):
    value = 1 if case in saying[1] else 0
    if case in saying[2]:
        value -= saying[3] if saying[0] == "times" else 1
    return value


def balances(book, counts):
    """Whether a tuple of integers is a balance, by the words of point [8]."""
    for saying, count in zip(book.sayings, counts, strict=True):
        if saying[0] != "same" and count < 0:
            return False
    sums = [sum([count * lean(saying, case) for saying, count in zip(book.sayings, counts)]) for case in book.cases]
    if not all([value <= 0 for value in sums]):
        return False
    more = [count for saying, count in zip(book.sayings, counts) if saying[0] == "more"]
    return any([count > 0 for count in more]) or all([value < 0 for value in sums])
