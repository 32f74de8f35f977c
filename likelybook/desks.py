"""Desks: books under names, with claims that hold after each change."""

from likelybook.books import check_book
from likelybook.claiming import asked, is_claim
from likelybook.errors import Broken, InUse, InvalidClaim, InvalidIndex, InvalidName, NothingToUndo, UnknownName
from likelybook.ratios import is_integer
from likelybook.sayings import is_name


class State:
    """What a desk has at one time, which stays as it is, and the state ahead of the change that led to it."""

    def __init__(self, books, claimed, past):
        self.books = books
        self.claimed = claimed
        self.past = past
        self.number = 0 if past is None else past.number + 1


class Mark:
    """A state to come back to, and the mark ahead of it."""

    def __init__(self, state, ahead):
        self.state = state
        self.ahead = ahead


class Trial:
    """Rows of a with statement that leave a desk as it was if they end with an exception."""

    def __init__(self, desk):
        self._desk = desk
        # The same trial may stand within itself, so that there is one mark for each time.
        self._mark = None

    def __enter__(self):
        self._mark = Mark(self._desk._now, self._mark)
        return self._desk

    def __exit__(self, kind, value, trace):
        desk = self._desk
        if kind is not None:
            desk._now = self._mark.state
        self._mark = self._mark.ahead


class Desk:
    """Books under names and a row of claims, with all changes."""

    def __init__(self):
        self._first = State({}, (), None)
        self._now = self._first

    def __setitem__(self, name, book):
        if not is_name(name):
            raise InvalidName(name)
        check_book(book)
        self._put(name, book)

    def __getitem__(self, name):
        self._check_known(name)
        return self._now.books[name]

    def __iter__(self):
        # Without this Python would go through a desk by asking for the items 0, 1, 2 and so on.
        raise TypeError("a desk is not gone through")

    def remove(self, name):
        """Takes a book away."""
        self._check_known(name)
        for index, claim in enumerate(self._now.claimed):
            if claim[1] == name:
                raise InUse(index)
        books = self._now.books
        self._change({other: books[other] for other in books if other != name}, self._now.claimed)

    def say(self, name, saying):
        """Puts a book with one saying more in the place of a book."""
        self._check_known(name)
        self._put(name, self._now.books[name].with_saying(saying))

    def claim(self, claim):
        """Makes a claim, behind the others."""
        if not is_claim(claim):
            raise InvalidClaim(claim)
        self._check_known(claim[1])
        books, claimed = self._now.books, self._now.claimed
        _check_holds(len(claimed), claim, books[claim[1]])
        self._change(books, claimed + (claim,))

    def lift(self, index):
        """Takes a claim away."""
        claimed = self._now.claimed
        if not is_integer(index) or not 0 <= index < len(claimed):
            raise InvalidIndex(index)
        self._change(self._now.books, claimed[:index] + claimed[index + 1:])

    def undo(self):
        """Takes back the last change that has not been taken back."""
        if self._now.past is None:
            raise NothingToUndo()
        self._now = self._now.past

    @property
    def titles(self):
        """The ascending tuple of the names."""
        return tuple(sorted(list(self._now.books)))

    @property
    def claims(self):
        """The tuple of the claims."""
        return self._now.claimed

    @property
    def changes(self):
        """How many changes can be taken back."""
        return self._now.number

    def trial(self):
        """For a with statement: if its rows end with an exception the desk is as it was when they began."""
        return Trial(self)

    def tried(self, action):
        """Calls a function with the desk in a trial and returns what it returns."""
        with self.trial() as desk:
            return action(desk)

    def __contains__(self, value):
        # Only strings are looked up: other values may have no hash.
        return isinstance(value, str) and value in self._now.books

    def __eq__(self, other):
        # Each desk has a first state of its own, which is equal to itself alone.
        return isinstance(other, Desk) and self._first == other._first

    def __len__(self):
        return len(self._now.books)

    def __bool__(self):
        # Without this a desk without books, which has the length 0, would not be true.
        return True

    def _check_known(self, name):
        """Raises UnknownName if a value is none of the names."""
        if name not in self:
            raise UnknownName(name)

    def _put(self, name, book):
        """Puts a book under a name if all claims hold then."""
        for index, claim in enumerate(self._now.claimed):
            # The claims that speak of other books hold as they did.
            if claim[1] == name:
                _check_holds(index, claim, book)
        self._change({**self._now.books, name: book}, self._now.claimed)

    def _change(self, books, claimed):
        """Changes to these books and claims, which go together."""
        self._now = State(books, claimed, self._now)


def _check_holds(index, claim, book):
    """Raises Broken if a claim, which has this index, does not hold for its book."""
    holds, shown = asked(book, claim)
    if not holds:
        raise Broken(index, shown)
