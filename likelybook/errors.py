"""The errors of this package.

The messages are fixed texts: what was given may be any value, also one that cannot be shown.
"""


class BadValue(ValueError):
    """A value that is not as described."""


class InvalidText(BadValue):
    """No text of a book."""

    def __init__(self, given):
        BadValue.__init__(self, "this is no text of a book")
        self.given = given


class InvalidCases(BadValue):
    """No cases, or not as many as it takes."""

    def __init__(self, given):
        BadValue.__init__(self, "these are no cases that can stand here")
        self.given = given


class InvalidLot(BadValue):
    """No lot of the cases."""

    def __init__(self, given):
        BadValue.__init__(self, "this is no lot of the cases")
        self.given = given


class InvalidSaying(BadValue):
    """No saying about the cases."""

    def __init__(self, given):
        BadValue.__init__(self, "this is no saying about the cases")
        self.given = given


class InvalidNumber(BadValue):
    """No integer of the range."""

    def __init__(self, given):
        BadValue.__init__(self, "this is no integer of the range")
        self.given = given


class InvalidOrder(BadValue):
    """No order of the cases."""

    def __init__(self, given):
        BadValue.__init__(self, "this is no order of the cases")
        self.given = given


class InvalidName(BadValue):
    """No name."""

    def __init__(self, given):
        BadValue.__init__(self, "this is no name")
        self.given = given


class InvalidIndex(BadValue):
    """No index of what is asked for."""

    def __init__(self, given):
        BadValue.__init__(self, "nothing has this index")
        self.given = given


class InvalidClaim(BadValue):
    """No claim of a desk."""

    def __init__(self, given):
        BadValue.__init__(self, "this is no claim of a desk")
        self.given = given


class InvalidCommand(BadValue):
    """No command of the console."""

    def __init__(self, given):
        BadValue.__init__(self, "this is no command")
        self.given = given


class NotABook(BadValue):
    """Something else where a book is wanted."""

    def __init__(self, given):
        BadValue.__init__(self, "this is no book")
        self.given = given


class InvalidSayings(BadValue):
    """No tuple of so many sayings about the cases."""

    def __init__(self, index):
        BadValue.__init__(self, "these are no sayings of a book")
        self.index = index


class InvalidOdds(BadValue):
    """No odds for the cases."""

    def __init__(self, index):
        BadValue.__init__(self, "these are no odds for the cases")
        self.index = index


class BadName(LookupError):
    """A name that cannot be used so."""


class UnknownName(BadName):
    """A name that the desk does not have."""

    def __init__(self, given):
        BadName.__init__(self, "the desk has no such name")
        self.given = given


class InUse(BadName):
    """A name of which a claim speaks."""

    def __init__(self, index):
        BadName.__init__(self, "a claim speaks of this name")
        self.index = index


class NoAnswer(ArithmeticError):
    """Right arguments for which there is nothing to tell."""


class NoOdds(NoAnswer):
    """No odds fit the book."""

    def __init__(self, balance):
        NoAnswer.__init__(self, "no odds fit the book")
        self.balance = balance


class TooMany(NoAnswer):
    """More than the limit."""

    def __init__(self, limit):
        NoAnswer.__init__(self, "more than the limit")
        self.limit = limit


class NothingToUndo(NoAnswer):
    """No change that can be taken back."""

    def __init__(self):
        NoAnswer.__init__(self, "no change can be taken back")


class Broken(NoAnswer):
    """A claim that does not hold."""

    def __init__(self, index, shown):
        NoAnswer.__init__(self, "a claim does not hold")
        self.index = index
        self.shown = shown
