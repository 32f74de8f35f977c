import random
import unittest

from likelybook.books import Book
from likelybook.console import Console
from likelybook.desks import Desk
from likelybook.errors import (
    InUse,
    InvalidClaim,
    InvalidCommand,
    InvalidIndex,
    InvalidLot,
    InvalidNumber,
    InvalidSaying,
    InvalidText,
    NothingToUndo,
    TooMany,
    UnknownName,
)
from tests.support import Raising, all_of, odd_values

RAIN = "cases abc\nmore a bc"
BAD = RAIN + "\nleast b a"
TWO = "cases ab\ntimes a b 3\nmore b -"
# A right command of each form, with the names that it has.
RIGHT = (
    "say rain more a b", "say rain least - b", "say rain same b -", "say rain times a b 2", "remove two",
    "claim agrees rain", "claim sure rain more a b", "claim sure rain least a -", "claim sure rain same - -",
    "lift 0", "undo", "agrees rain", "sure rain a b", "sure rain - -", "odds rain a", "odds rain -",
    "weights rain 30", "show rain", "names", "claims",
)
WRONG_NAMES = ("Rain", "rain1", "abcdefghi", "-", "", "ra-in", "1", "ra_in", "rain\t", "'rain'", "r.n", "ra`n", "ra{n")
WRONG_LOTS = ("A", "aB", "1", "a1", "--", "-a", "a-", "", "a,b", "(a)", "abC", "`", "{")
WRONG_NUMBERS = (
    "+1", "-0", "+0", "00", "01", "-01", "--1", "-", "", "1.0", "1e3", "0x1", "1_0", "a", "one", "1-", " 1", "1,0",
    "1/1", "0b1", "12a", "a12", ":", "/", "1:", "x", "1x",
)
BEYOND = ("\u00b2", "\u0661", "\uff11", "\u00e9", "\u00aa")


def some_console():
    console = Console()
    for name, text in (("rain", RAIN), ("two", TWO), ("bad", BAD)):
        console.run("put " + name + "\n" + text)
    console.run("claim sure rain more a c")
    return console


class Forms(Raising):
    def wrong(self, console, *commands):
        for command in commands:
            with self.subTest(command=command), self.unchanged(console.desk):
                self.raised(InvalidCommand, command, console.run, command)
                self.raised(InvalidCommand, command, console.run, command=command)

    def test_right_ones(self):
        for command in RIGHT:
            with self.subTest(command):
                self.assertIs(type(some_console().run(command)), str)
                self.assertEqual(some_console().run(command=command), some_console().run(command))

    def test_single_spaces_stand_between_words(self):
        console = some_console()
        for command in RIGHT:
            self.wrong(console, " " + command, command + " ", command.upper(), command.title())
            if " " in command:
                head, tail = command.split(" ", 1)
                self.wrong(console, head + "  " + tail, head + tail, head + "\t" + tail, head + ", " + tail)
                head, tail = command.rsplit(" ", 1)
                self.wrong(console, head + "  " + tail, head, head + " ")

    def test_words_too_few_and_too_many(self):
        console = some_console()
        for command in RIGHT:
            words = command.split(" ")
            self.wrong(console, command + " a", command + " 1", command + " -", command + " rain")
            for length in range(len(words)):
                self.wrong(console, " ".join(words[:length]))

    def test_newlines_stand_behind_put_alone(self):
        console = some_console()
        for command in RIGHT:
            self.wrong(console, command + "\n", "\n" + command, command.replace(" ", "\n", 1) + "\n")
            self.wrong(console, command + "\n" + RAIN, command + "\nundo", command + "\r", command + "\r\n")
        self.wrong(console, "put", "put rain", "put rain cases abc", "put\n" + RAIN, "put \n" + RAIN)
        self.wrong(console, "put rain \n" + RAIN, "\nput rain\n" + RAIN, " put rain\n" + RAIN)
        self.wrong(console, "put  rain\n" + RAIN, "put rain\r\n" + RAIN)
        self.wrong(console, "put\nrain\n" + RAIN, "Put rain\n" + RAIN, "put rain a\n" + RAIN, "putrain\n" + RAIN)
        self.wrong(console, "say rain more a b\n", "rain\n" + RAIN, "\n" + RAIN, "\n", "", " ", RAIN)

    def test_other_words(self):
        console = some_console()
        self.wrong(console, "get rain", "puts rain", "balance rain", "help", "redo", "name", "claim", "claims rain")
        self.wrong(console, "claim from rain a 1/2", "claim from rain a", "claim rain", "claim agree rain", "undo 1")
        self.wrong(console, "claim sure rain times a b 2", "claim sure rain times a b", "claim least rain a b")
        self.wrong(console, "agrees", "agree rain", "lift", "lift -", "names rain", "show", "weights rain", "odds a")
        self.wrong(console, "say rain less a b", "say rain open a b", "say rain a b", "say rain times a b")
        self.wrong(console, "say rain more a b 2", "say rain least a b 2", "say rain More a b", "say rain - a b")
        self.wrong(console, "say times rain a b 2", "say rain times 2 a b", "say rain times a b c", "say more a b")
        self.wrong(console, "sure rain more a b", "odds rain a b", "show rain two", "weights rain 3 4", "remove - -")
        self.wrong(console, "claim sure rain less a b", "claim sure more rain a b", "claim sure rain open a b")

    def test_names(self):
        console = some_console()
        for name in WRONG_NAMES + BEYOND:
            self.wrong(console, "put " + name + "\n" + RAIN)
            for command in RIGHT:
                if " rain" in command or " two" in command:
                    self.wrong(console, command.replace(" rain", " " + name, 1).replace(" two", " " + name, 1))
        for name in ("a", "abcdefgh", "zzzzzzzz", "undo", "put", "names", "more", "times", "agrees", "sure"):
            self.assertEqual(console.run("put " + name + "\n" + RAIN), "ok")
            self.assertEqual(console.run("show " + name), RAIN)
            self.assertEqual(console.run("say " + name + " more a b"), "ok")
            self.assertEqual(console.run("claim sure " + name + " more a b"), "ok")
            self.assertEqual(console.run("sure " + name + " a b"), "more")

    def test_lots(self):
        console = some_console()
        for lot in WRONG_LOTS + BEYOND:
            for command in (
                "say rain more {} b", "say rain same b {}", "say rain times {} b 2", "say rain times b {} 2",
                "claim sure rain more {} b", "claim sure rain least b {}", "sure rain {} b", "sure rain b {}",
                "odds rain {}",
            ):
                self.wrong(console, command.format(lot))

    def test_numbers(self):
        console = some_console()
        for number in WRONG_NUMBERS + BEYOND:
            self.wrong(console, "say rain times a b " + number, "lift " + number, "weights rain " + number)

    def test_signs_beyond_those_of_the_text(self):
        console = some_console()
        for sign in BEYOND:
            for command in RIGHT:
                self.wrong(console, command + sign, sign + command, sign + command[1:], command + " " + sign)

    def test_values_of_any_kind(self):
        console = some_console()
        self.wrong(console, *odd_values())
        self.wrong(console, b"undo", ["undo"], ("undo",), {"undo": 1}, ("say", "rain", "more", "a", "b"), None)


class Order(Raising):
    """Which error comes ahead of which."""

    def test_a_wrong_form_comes_ahead_of_an_unknown_name(self):
        console = some_console()
        for command in ("say sky less a b", "sure sky A b", "weights sky 01", "claim sure sky less a b", "odds sky"):
            self.raised(InvalidCommand, command, console.run, command)

    def test_an_unknown_name_comes_ahead_of_all_else(self):
        console = some_console()
        for command in (
            "say {} more ba b", "say {} more x y", "say {} times a b 99", "say {} more a b", "remove {}",
            "claim agrees {}", "claim sure {} more ba b", "claim sure {} more a b", "claim sure {} same zy -",
            "agrees {}", "sure {} ba x", "sure {} a b", "odds {} zz", "odds {} a", "weights {} 0", "weights {} -5",
            "weights {} 5", "show {}",
        ):
            for name in ("sky", "rai", "abcdefgh", "cases"):
                with self.subTest(command.format(name)), self.unchanged(console.desk):
                    error = self.error(UnknownName, console.run, command.format(name))
                    self.assertEqual(error.given, name)

    def check(self, kind, given, command, console):
        with self.subTest(command), self.unchanged(console.desk):
            error = self.error(kind, console.run, command)
            self.assertEqual(error.given, given)
            self.assertIs(type(error.given), type(given))

    def test_errors_of_put(self):
        console = some_console()
        for text in ("", "\n", RAIN + "\n", "cases ba", "cases abc\nmore a d", "\n" + RAIN, "cases abc\nless a b", " "):
            self.check(InvalidText, text, "put rain\n" + text, console)
            self.check(InvalidText, text, "put new\n" + text, console)
        with self.unchanged(console.desk):
            self.broken(0, "open", console.run, "put rain\ncases abc")
            self.broken(0, None, console.run, "put rain\ncases ab")

    def test_errors_of_say(self):
        console = some_console()
        for words, saying in (
            ("more ba b", ("more", "ba", "b")), ("least a d", ("least", "a", "d")), ("same aa -", ("same", "aa", "")),
            ("times a b 1", ("times", "a", "b", 1)), ("times a b 10", ("times", "a", "b", 10)),
            ("times - b -3", ("times", "", "b", -3)), ("times a b 0", ("times", "a", "b", 0)),
            ("times a b " + "9" * 39, ("times", "a", "b", int("9" * 39))), ("times a b -1", ("times", "a", "b", -1)),
        ):
            self.check(InvalidSaying, saying, "say rain " + words, console)
        console.run("claim agrees rain")
        with self.unchanged(console.desk):
            self.broken(1, Book.read(BAD), console.run, "say rain least b a")
        for _ in range(11):
            console.run("say rain more a b")
        self.raised(TooMany, 12, console.run, "say rain more a b")
        self.check(InvalidSaying, ("more", "z", "b"), "say rain more z b", console)

    def test_errors_of_claims(self):
        console = some_console()
        self.check(InvalidClaim, ("sure", "rain", "more", "ba", "b"), "claim sure rain more ba b", console)
        self.check(InvalidClaim, ("sure", "rain", "same", "", "aa"), "claim sure rain same - aa", console)
        with self.unchanged(console.desk):
            self.broken(1, Book.read(BAD), console.run, "claim agrees bad")
            self.broken(1, "open", console.run, "claim sure rain more b c")
            self.broken(1, None, console.run, "claim sure rain more z c")
            self.broken(1, None, console.run, "claim sure bad more abcxyz -")
            self.raised(InUse, 0, console.run, "remove rain")
        for word, index in (("1", 1), ("-1", -1), ("99", 99), ("-" + "7" * 39, -int("7" * 39))):
            self.check(InvalidIndex, index, "lift " + word, console)

    def test_errors_of_questions(self):
        console = some_console()
        for command, lot in (
            ("sure rain ba a", "ba"), ("sure rain a d", "d"), ("sure rain d ba", "d"), ("odds rain cb", "cb"),
            ("odds bad d", "d"), ("sure bad a aa", "aa"), ("sure two c a", "c"),
        ):
            self.check(InvalidLot, lot, command, console)
        for number in (0, 31, -1, -30, 10 ** 39):
            self.check(InvalidNumber, number, f"weights rain {number}", console)
            self.check(InvalidNumber, number, f"weights bad {number}", console)
        for command in ("sure bad a b", "odds bad a", "odds bad -"):
            with self.unchanged(console.desk):
                self.no_odds(Book.read(BAD), console.run, command)

    def test_nothing_to_undo(self):
        console = Console()
        self.error(NothingToUndo, console.run, "undo")
        console.run("put a\ncases ab")
        console.run("undo")
        self.error(NothingToUndo, console.run, "undo")


class Answers(Raising):
    def check(self, console, command, answer):
        self.assertEqual(console.run(command), answer)

    def test_changes(self):
        console = Console()
        for command in (
            "put b\n" + RAIN, "say b more b c", "say b times b c 2", "claim agrees b", "claim sure b more a -",
            "lift 1", "undo", "put d\n" + TWO, "remove d", "undo", "put b\n" + RAIN + "\nmore c -",
            "lift 0", "lift 0", "remove b",
        ):
            self.check(console, command, "ok")
        self.assertEqual((console.desk.titles, console.desk.claims, console.desk.changes), (("d",), (), 10))

    def test_what_put_and_say_do(self):
        console = Console()
        console.run("put sky\n" + RAIN)
        self.assertEqual(console.desk["sky"], Book.read(RAIN))
        console.run("put sky\n" + TWO)
        self.assertEqual(console.desk["sky"], Book.read(TWO))
        for words in ("same - -", "least b a", "times ab - 9", "times - b 2", "more - ab"):
            console.run("say sky " + words)
            self.assertEqual(console.run("show sky").split("\n")[-1], words)
        self.assertEqual(console.desk["sky"].sayings[-2:], (("times", "", "b", 2), ("more", "", "ab")))
        self.check(console, "names", "sky")

    def test_what_claims_do(self):
        console = some_console()
        console.run("claim agrees two")
        console.run("claim sure rain least ab -")
        claims = (("sure", "rain", "more", "a", "c"), ("agrees", "two"), ("sure", "rain", "least", "ab", ""))
        self.assertEqual(console.desk.claims, claims)
        self.check(console, "claims", "3")
        console.run("lift 1")
        self.assertEqual(console.desk.claims, (claims[0], claims[2]))
        self.check(console, "claims", "2")
        console.run("undo")
        self.assertEqual(console.desk.claims, claims)
        for _ in range(9):
            console.run("claim agrees two")
        self.check(console, "claims", "12")

    def test_agrees(self):
        console = some_console()
        for name, answer in (("rain", "yes"), ("bad", "no"), ("two", "yes")):
            self.check(console, "agrees " + name, answer)

    def test_sure(self):
        console = some_console()
        for lots, word in (
            ("a b", "more"), ("b c", "open"), ("ab a", "least"), ("c abc", "less"), ("a a", "same"), ("a ab", "most"),
            ("- a", "less"), ("- -", "same"), ("b -", "least"), ("- b", "most"),
        ):
            self.check(console, "sure rain " + lots, word)

    def test_odds(self):
        console = some_console()
        for words, answer in (
            ("rain a", "1/2 1/1"), ("rain b", "0/1 1/2"), ("two a", "3/4 1/1"), ("two b", "0/1 1/4"),
            ("two ab", "1/1 1/1"), ("two -", "0/1 0/1"),
        ):
            self.check(console, "odds " + words, answer)

    def test_weights(self):
        console = some_console()
        for words, answer in (
            ("rain 1", "1 0 0"), ("rain 30", "1 0 0"), ("two 3", "none"), ("two 4", "3 1"), ("two 30", "3 1"),
            ("bad 30", "none"),
        ):
            self.check(console, "weights " + words, answer)
        console.run("put far\ncases ab\ntimes a b 9\nmore b -")
        self.check(console, "weights far 30", "9 1")
        console.run("put wide\ncases ab\ntimes a b 9\ntimes b - 2\nmore b -\nmore a b")
        self.check(console, "weights wide 10", "9 1")

    def test_show_and_names(self):
        console = some_console()
        self.check(console, "show two", TWO)
        self.check(console, "show bad", BAD)
        self.check(console, "names", "bad rain two")
        self.check(console, "claims", "1")
        self.check(Console(), "names", "none")
        self.check(Console(), "claims", "0")

    def test_lots_of_all_cases(self):
        console = Console()
        console.run("put az\ncases az\nmore a z")
        self.check(console, "show az", "cases az\nmore a z")
        self.check(console, "odds az az", "1/1 1/1")
        self.check(console, "say az times a z 9", "ok")
        self.check(console, "odds az a", "9/10 1/1")
        self.check(console, "say az times a z 2", "ok")

    def test_questions_change_nothing(self):
        console = some_console()
        with self.unchanged(console.desk):
            for command in (
                "agrees rain", "sure rain a b", "odds rain a", "weights rain 9", "show rain", "names", "claims",
            ):
                self.assertEqual(console.run(command), console.run(command))


class Desks(Raising):
    def test_a_new_console(self):
        console = Console()
        self.assertIs(type(console.desk), Desk)
        self.assertEqual(all_of(console.desk), ([], (), 0, 0))
        self.assertIs(console.desk, console.desk)
        self.assertIsNot(console.desk, Console().desk)
        self.assertTrue(console)

    def test_the_desk_may_be_led_itself(self):
        console = Console()
        console.desk["a"] = Book.read(RAIN)
        console.desk.claim(("from", "a", "a", (1, 2)))
        self.assertEqual(console.run("show a"), RAIN)
        self.assertEqual(console.run("claims"), "1")
        self.raised(InUse, 0, console.run, "remove a")
        self.broken(0, ((0, 1), True), console.run, "put a\ncases abc")
        with self.unchanged(console.desk):
            with self.assertRaises(UnknownName):
                with console.desk.trial():
                    console.run("lift 0")
                    console.run("remove a")
                    console.run("remove a")

    def test_the_interface(self):
        self.assertIn("run", vars(Console))
        self.assertIsInstance(vars(Console)["desk"], property)
        self.assertEqual(Console.__module__, "likelybook.console")
        with self.assertRaises(AttributeError):
            Console().desk = Desk()

    def test_bent_commands(self):
        # What is no form in any way is told to be none, and nothing but the errors of the text is raised.
        rng = random.Random(1)
        signs = "ab-0129 \n moreput"
        errors = (ArithmeticError, LookupError, ValueError)
        console = some_console()
        known = ("likelybook.errors",)
        for _ in range(4000):
            command = list(rng.choice(RIGHT + ("put rain\n" + RAIN, "put new\n" + TWO)))
            for _ in range(rng.randint(1, 3)):
                place = rng.randrange(len(command) + 1)
                command[place:place + rng.randint(0, 2)] = [rng.choice(signs) for _ in range(rng.randint(0, 2))]
            before = all_of(console.desk)
            try:
                self.assertIs(type(console.run("".join(command))), str)
                if console.desk.changes != before[2]:
                    console = some_console()
            except errors as error:
                self.assertIn(type(error).__module__, known, "".join(command))
                self.assertEqual(all_of(console.desk), before)


if __name__ == "__main__":
    unittest.main()
