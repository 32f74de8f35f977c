"""What the document promises over the whole program."""

import importlib
import random
import unittest

from likelybook.books import Book
from likelybook.checker import accepts
from likelybook.console import Console
from likelybook.desks import Desk
from likelybook.fitting import agrees, balance, failing, is_balance, odds, odds_of
from likelybook.mending import may_say, needless, open_pairs, strikes
from likelybook.orders import count_plain, giving, is_order, is_plain, order, sayings_of
from likelybook.papers import paper_of_book, paper_of_least, paper_of_order, paper_of_sure
from likelybook.sure import greatest_given, greatest_odds, least_given, least_odds, least_times, sure
from likelybook.whole import how_many, weights
from tests.support import Raising, all_of, lots, some_books, some_odds, some_saying

INTERFACE = {
    "limits": "MOST_CASES MOST_SAYINGS MOST_TIMES MOST_TOTAL MOST_OPEN",
    "errors": (
        "BadValue InvalidText InvalidCases InvalidLot InvalidSaying InvalidNumber InvalidOrder InvalidName "
        "InvalidIndex InvalidClaim InvalidCommand NotABook InvalidSayings InvalidOdds BadName UnknownName InUse "
        "NoAnswer NoOdds TooMany NothingToUndo Broken"
    ),
    "books": "Book",
    "fitting": "odds_of failing agrees odds balance is_balance",
    "sure": "sure least_odds greatest_odds least_times least_given greatest_given",
    "whole": "weights how_many",
    "orders": "order is_order is_plain giving sayings_of count_plain",
    "mending": "strikes may_say needless open_pairs",
    "desks": "Desk",
    "console": "Console",
    "checker": "accepts",
    "papers": "paper_of_book paper_of_sure paper_of_least paper_of_order",
}
ERRORS = (ValueError, LookupError, ArithmeticError)


def outcome(function, *values):
    """What a call tells, or the error that it raises, as something that can be compared."""
    try:
        return ("told", function(*values))
    except ERRORS as error:
        return (type(error).__name__, vars(error))


def part(told):
    return f"{told[0]}/{told[1]}"


def word_of(lot):
    return lot or "-"


class Interface(unittest.TestCase):
    def test_each_name_is_defined_in_its_file(self):
        for name, words in INTERFACE.items():
            module = importlib.import_module("likelybook." + name)
            for word in words.split():
                self.assertIn(word, vars(module))
                if name != "limits":
                    self.assertEqual(vars(module)[word].__module__, "likelybook." + name)


class ConsoleAndFunctions(Raising):
    def test_a_console_tells_what_the_functions_tell(self):
        rng = random.Random(51)
        console = Console()
        for book in some_books(52, 120):
            self.assertEqual(console.run("put a\n" + book.text), "ok")
            self.assertEqual(console.desk["a"], book)
            self.assertEqual(console.run("show a"), book.text)
            self.assertEqual(console.run("agrees a"), "yes" if agrees(book) else "no")
            left, right = [rng.choice(lots(book.cases)) for _ in range(2)]
            most = rng.randint(1, 12)
            told = weights(book, most)
            wanted = "none" if told is None else " ".join([str(weight) for weight in told])
            self.assertEqual(console.run(f"weights a {most}"), wanted)
            if agrees(book):
                self.assertEqual(console.run(f"sure a {word_of(left)} {word_of(right)}"), sure(book, left, right))
                wanted = part(least_odds(book, left)[0]) + " " + part(greatest_odds(book, left)[0])
                self.assertEqual(console.run(f"odds a {word_of(left)}"), wanted)
            else:
                self.no_odds(book, console.run, f"sure a {word_of(left)} {word_of(right)}")
                self.no_odds(book, console.run, f"odds a {word_of(left)}")

    def step(self, rng, desk):
        """A change by chance, often a wrong one: as a command, and as what is to be called."""
        name = rng.choice(("a", "b", "c"))
        cases = rng.choice(("abc", "abc", "abd", "ab"))
        kind = rng.choice(("put", "put", "say", "say", "claim", "claim", "agrees", "lift", "undo", "remove"))
        saying = some_saying(rng, cases)
        if rng.random() < 0.1:
            saying = (saying[0], "ba", *saying[2:])
        word, left, right, *rest = saying
        line = " ".join([word, word_of(left), word_of(right)] + [str(number) for number in rest])
        if kind == "put":
            book = Book(cases, tuple([some_saying(rng, cases) for _ in range(rng.randint(0, 2))]))
            return f"put {name}\n{book.text}", desk.__setitem__, (name, book)
        if kind == "say":
            return f"say {name} {line}", desk.say, (name, saying)
        if kind == "claim" and word != "times" and name in desk:
            return f"claim sure {name} {line}", desk.claim, (("sure", name, *saying),)
        if kind in ("claim", "agrees"):
            return f"claim agrees {name}", desk.claim, (("agrees", name),)
        if kind == "lift":
            index = rng.randint(-1, 3)
            return f"lift {index}", desk.lift, (index,)
        if kind == "remove":
            return f"remove {name}", desk.remove, (name,)
        return "undo", desk.undo, ()

    def test_the_same_desk_led_by_methods_and_by_a_console(self):
        seen = {}
        for seed in range(60):
            rng = random.Random(seed)
            desk, console = Desk(), Console()
            for _ in range(40):
                command, method, values = self.step(rng, desk)
                kind, told = outcome(method, *values)
                answer = outcome(console.run, command)
                self.assertEqual(answer, (kind, "ok" if kind == "told" else told), command)
                self.assertEqual(all_of(console.desk), all_of(desk))
                self.assertEqual(console.run("names"), " ".join(desk.titles) or "none")
                self.assertEqual(console.run("claims"), str(len(desk.claims)))
                seen[command.split()[0], kind] = seen.get((command.split()[0], kind), 0) + 1
            while desk.changes:
                desk.undo()
                console.run("undo")
                self.assertEqual(all_of(console.desk), all_of(desk))
        for told in (
            ("put", "told"), ("put", "Broken"), ("say", "told"), ("say", "Broken"), ("say", "UnknownName"),
            ("say", "InvalidSaying"), ("claim", "told"), ("claim", "Broken"), ("claim", "UnknownName"),
            ("claim", "InvalidClaim"), ("lift", "told"), ("lift", "InvalidIndex"), ("undo", "told"),
            ("undo", "NothingToUndo"), ("remove", "told"), ("remove", "InUse"), ("remove", "UnknownName"),
        ):
            self.assertGreater(seen.get(told, 0), 5, told)


def calls(rng, book):
    """Calls of all functions with a book, and with what belongs to it."""
    left, right, known = [rng.choice(lots(book.cases)) for _ in range(3)]
    told = some_odds(rng, len(book.cases))
    saying = some_saying(rng, book.cases)
    row = order(book.cases, told)
    made = paper_of_book(book)
    yield from ((agrees, book), (odds, book), (balance, book), (strikes, book), (needless, book), (open_pairs, book))
    yield from ((sure, book, left, right), (least_odds, book, left), (greatest_odds, book, left))
    yield from ((least_times, book, left, right), (least_given, book, left, known), (greatest_given, book, left, known))
    yield from ((weights, book, 5), (how_many, book, 5), (may_say, book, saying), (failing, book, told))
    yield from ((odds_of, book, told, left), (is_balance, book, made[1]), (order, book.cases, told))
    yield from ((giving, book.cases, row), (sayings_of, book.cases, row), (is_order, book.cases, row))
    yield from ((is_plain, book.cases, row), (count_plain, book.cases[:3]), (paper_of_book, book))
    yield from ((paper_of_least, book, left), (paper_of_order, book.cases, row), (accepts, made[0], made[1]))
    yield from ((paper_of_sure, book, word, left, right) for word in ("more", "least", "same"))
    yield from ((Book.with_saying, book, saying), (Book.without, book, 0))
    yield from ((Book.renamed, book, "uvwxyz"[:len(book.cases)]), (Book.read, book.text))
    yield from ((failing, book, made[1]), (weights, book, 31), (sure, book, "ba", left), (odds_of, book, told, "zy"))


def alike(value):
    """The same value again, made of new tuples and new books."""
    if isinstance(value, tuple):
        return tuple([alike(one) for one in list(value)])
    return Book(value.cases, tuple(list(value.sayings))) if isinstance(value, Book) else value


def shown(value):
    """All of a value as a string, so that it can be seen whether it changed."""
    return f"Book({value.text!r})" if isinstance(value, Book) else repr(value)


class Calls(Raising):
    def test_calls_made_again_tell_equal_things(self):
        rng = random.Random(53)
        books = [book for book in some_books(54, 36) if len(book.cases) < 6]
        made = [call for book in books for call in calls(rng, book)]
        given = [[shown(value) for value in values] for _, *values in made]
        first = [outcome(function, *values) for function, *values in made]
        places = list(range(len(made)))
        rng.shuffle(places)
        for place in places:
            function, *values = made[place]
            self.assertEqual(outcome(function, *values), first[place])
            self.assertEqual(outcome(function, *[alike(value) for value in values]), first[place])
        self.assertEqual([[shown(value) for value in values] for _, *values in made], given)
        self.assertGreater(len([told for told in first if told[0] == "NoOdds"]), 50)

    def test_a_desk_tells_equal_things_again(self):
        desk = Desk()
        for number, book in enumerate(some_books(55, 20)):
            desk["x" * (1 + number % 8)] = book
            self.assertEqual(all_of(desk), all_of(desk))
            first = outcome(desk.claim, ("agrees", "x"))
            if first[0] == "told":
                desk.undo()
            self.assertEqual(outcome(desk.claim, ("agrees", "x")), first)
            if first[0] == "told":
                desk.undo()
            self.assertEqual(desk.changes, number + 1)

    def test_what_a_desk_and_a_console_were_given_stays_as_it_is(self):
        for book in some_books(56, 20):
            text, claim = book.text, ("from", "a", "", (0, 1))
            desk = Desk()
            desk["a"] = book
            desk.claim(claim)
            outcome(desk.say, "a", ("least", "", ""))
            desk.lift(0)
            desk.undo()
            self.assertEqual((book.text, claim), (text, ("from", "a", "", (0, 1))))
            self.assertIs(desk.claims[0], claim)

    def test_papers_of_what_the_functions_tell(self):
        for book in some_books(57, 60):
            claim, paper = paper_of_book(book)
            self.assertEqual(claim[0] == "odds", agrees(book))
            self.assertIs(accepts(("odds", book.text), odds(book)), agrees(book))
            self.assertIs(accepts(("none", book.text), balance(book)), not agrees(book))
            self.assertIs(accepts(claim, paper), True)


if __name__ == "__main__":
    unittest.main()
