"""A console: a desk that is led and asked by lines of text."""

from likelybook.books import Book
from likelybook.desks import Desk
from likelybook.errors import InvalidCommand, UnknownName
from likelybook.fitting import agrees
from likelybook.sayings import NONE_WORD, are_letters, is_name, is_plain_word
from likelybook.sure import greatest_odds, least_odds, sure
from likelybook.whole import weights

DIGITS = "0123456789"
DONE = "ok"
NOTHING = "none"
PUT = "put NAME"


def _say(desk, name, *saying):
    """A saying more."""
    desk.say(name, saying)
    return DONE


def _remove(desk, name):
    """Takes a book away."""
    desk.remove(name)
    return DONE


def _claim(desk, word, name, *rest):
    """A claim more."""
    # The desk looks at the rest of the claim before it looks for the name.
    if name not in desk:
        raise UnknownName(name)
    desk.claim((word, name, *rest))
    return DONE


def _lift(desk, index):
    """Takes a claim away."""
    desk.lift(index)
    return DONE


def _undo(desk):
    """Takes the last change back."""
    desk.undo()
    return DONE


def _agrees(desk, name):
    """Whether some odds fit."""
    return "yes" if agrees(desk[name]) else "no"


def _sure(desk, name, left, right):
    """What the first lot surely is."""
    return sure(desk[name], left, right)


def _odds(desk, name, lot):
    """The least and the greatest odds."""
    bounds = [least_odds(desk[name], lot), greatest_odds(desk[name], lot)]
    return " ".join([f"{above}/{below}" for (above, below), _ in bounds])


def _weights(desk, name, most):
    """The weights that fit with the least sum."""
    found = weights(desk[name], most)
    return NOTHING if found is None else " ".join([str(weight) for weight in found])


def _show(desk, name):
    """The text of a book."""
    return desk[name].text


def _names(desk):
    """All names."""
    return " ".join(desk.titles) or NOTHING


def _claims(desk):
    """How many claims there are."""
    return str(len(desk.claims))


# The forms of all commands but "put". Each action takes the desk, and the words behind the first one.
ACTIONS = {
    "say NAME WORD L R": _say,
    "say NAME times L R N": _say,
    "remove NAME": _remove,
    "claim agrees NAME": _claim,
    "claim sure NAME WORD L R": _claim,
    "lift N": _lift,
    "undo": _undo,
    "agrees NAME": _agrees,
    "sure NAME L R": _sure,
    "odds NAME L": _odds,
    "weights NAME N": _weights,
    "show NAME": _show,
    "names": _names,
    "claims": _claims,
}


class Console:
    """A desk that is led and asked by lines of text."""

    def __init__(self):
        self._desk = Desk()

    @property
    def desk(self):
        """The desk of this console."""
        return self._desk

    def run(self, command):
        """Does a command and returns the answer, a string."""
        if not isinstance(command, str):
            raise InvalidCommand(command)
        line, newline, text = command.partition("\n")
        if newline:
            return self._put(command, line, text)
        for form in ACTIONS:
            values = _values(form, line)
            if values is not None:
                action = ACTIONS[form]
                return action(self._desk, *values)
        raise InvalidCommand(command)

    def _put(self, command, line, text):
        """Puts the book with this text under the name in the line."""
        values = _values(PUT, line)
        if values is None:
            raise InvalidCommand(command)
        self._desk[values[0]] = Book.read(text)
        return DONE


def _values(form, line):
    """The list of what the words of a line, but for the first one, tell; None if it has not this form."""
    parts, words = form.split(" "), line.split(" ")
    if len(parts) != len(words):
        return None
    values = [_value(part, word) for part, word in zip(parts, words)]
    return None if None in values else values[1:]


def _value(part, word):
    """What a word tells in the place of a part of a form, None if it cannot stand there."""
    if part == "N":
        return int(word) if _is_number(word) else None
    if part in ("L", "R"):
        return _lot(word)
    if part == "NAME":
        return word if is_name(word) else None
    if part == "WORD":
        return word if is_plain_word(word) else None
    return word if word == part else None


def _lot(word):
    """The string of letters that a word tells, None if it tells none."""
    if word == NONE_WORD:
        return ""
    return word if are_letters(word) else None


def _is_number(word):
    """Whether a word is an integer in decimals."""
    digits = word.removeprefix("-")
    if digits == "" or not all([digit in DIGITS for digit in digits]):
        return False
    return digits[0] != "0" or word == "0"
