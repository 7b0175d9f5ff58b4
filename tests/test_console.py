import inspect
import random
import unittest
from fractions import Fraction

from biddingmoves import console as module
from biddingmoves.books import Book
from biddingmoves.console import Console
from biddingmoves.errors import (
    AtAnEnd, Broken, InUse, InvalidLine, NothingToUndo, UnknownName, UnknownPlace,
)
from biddingmoves.moves import moves_to_win
from biddingmoves.needs import best_moves, need, winner
from cases import FORK, LINE, TINY, WebCase, pair, shares_around, some_webs
from samples import odd_values

SET_LINE = "g = a: b x / b: a y / x = 0/1 / y = 1/1"
SET_FORK = "fork = a: b c / b: x y / c: a y / x = 0/1 / y = 1/1"
WORDS = ("drop", "undo", "least", "most", "within", "order", "need", "wins", "moves", "go")


def told_of(console):
    book = console.book
    return book.names, book.claims, book.changes, [book[name] for name in book.names]


def begun():
    console = Console()
    for line in (SET_LINE, SET_FORK, "g least a 1/3", "g within a 3 3/8"):
        console.say(line)
    return console


def line_for(name, web):
    return f"{name} = " + " / ".join(web.text.split("\n"))


class ConsoleCase(WebCase):
    def check_says(self, console, line, told):
        self.assertEqual(console.say(line), told)

    def check_error_of(self, console, line, kind, **named):
        """The error with these attributes, and the book stays as it is."""
        before = told_of(console)
        with self.assertRaises(kind) as caught:
            console.say(line)
        self.assertIs(type(caught.exception), kind)
        self.assertEqual(vars(caught.exception), named)
        self.assertEqual(told_of(console), before)

    def check_no_line(self, console, line):
        before = told_of(console)
        self.check_error(InvalidLine, line, console.say, line)
        self.assertEqual(told_of(console), before)


class TestExamples(ConsoleCase):
    def test_examples_of_the_document(self):
        console = Console()
        lines = [
            SET_LINE, "g need b", "g wins a 2/5", "g moves a 2/5", "g most a 1/3", "g go a", "g moves a 1/3",
        ]
        self.assertEqual([console.say(line) for line in lines], ["4", "2/3", "first", "3", "ok", "x", "never"])

    def test_interface(self):
        self.assertEqual(Console.__module__, "biddingmoves.console")
        self.assertIs(module.Console, Console)
        self.assertIs(type(vars(Console)["book"]), property)
        self.assertEqual(list(inspect.signature(vars(Console)["say"]).parameters), ["self", "line"])
        self.assertEqual(list(inspect.signature(Console).parameters), [])
        console = Console()
        self.assertIs(type(console.book), Book)
        self.assertIs(console.book, console.book)
        self.assertIsNot(console.book, Console().book)
        self.assertEqual(console.say(line=SET_LINE), "4")
        self.assertIs(bool(console), True)


class TestLines(ConsoleCase):
    def test_setting(self):
        console = Console()
        self.check_says(console, SET_LINE, "4")
        self.check_says(console, SET_FORK, "5")
        self.assertEqual(console.book.names, ("fork", "g"))
        self.assertEqual((console.book["g"], console.book["fork"]), (LINE, FORK))
        self.check_says(console, "g = m = 3/7", "1")
        self.assertEqual(console.book["g"].text, "m = 3/7")
        self.check_says(console, "abcdefgh = a: z / z = 1/1000000000000", "2")
        self.assertEqual(console.book.changes, 4)

    def test_setting_many_webs(self):
        console = Console()
        for web in some_webs():
            self.check_says(console, line_for("w", web), str(len(web.places)))
            self.assertEqual(console.book["w"], web)

    def test_drop_and_undo(self):
        console = begun()
        self.check_says(console, "drop fork", "ok")
        self.assertEqual((console.book.names, console.book.changes), (("g",), 5))
        self.check_says(console, "undo", "ok")
        self.assertEqual((console.book.names, console.book.changes), (("fork", "g"), 4))
        for many in (3, 2, 1, 0):
            self.check_says(console, "undo", "ok")
            self.assertEqual(console.book.changes, many)
        self.check_error_of(console, "undo", NothingToUndo)

    def test_claims(self):
        console = Console()
        console.say(SET_LINE)
        wanted = []
        for line, claim in (
            ("g least a 1/3", ("least", "g", "a", (1, 3))), ("g most a 1/3", ("most", "g", "a", (1, 3))),
            ("g least x 0/1", ("least", "g", "x", (0, 1))), ("g most y 1/1", ("most", "g", "y", (1, 1))),
            ("g least a 1/1000000000000", ("least", "g", "a", (1, 10 ** 12))),
            ("g within a 3 3/8", ("within", "g", "a", 3, (3, 8))),
            ("g within x 0 0/1", ("within", "g", "x", 0, (0, 1))),
            ("g within y 60 1/1", ("within", "g", "y", 60, (1, 1))),
            ("g order a b", ("order", "g", "a", "b")), ("g order a a", ("order", "g", "a", "a")),
        ):
            self.check_says(console, line, "ok")
            wanted.append(claim)
            self.assertEqual(console.book.claims, tuple(wanted))

    def test_questions(self):
        chance = random.Random(101)
        found = set()
        for web in some_webs():
            console = Console()
            console.say(line_for("w", web))
            before = told_of(console)
            for place in web.places:
                needed = need(web, place)
                self.check_says(console, f"w need {place}", f"{needed[0]}/{needed[1]}")
                if place in web.ends:
                    self.check_error_of(console, f"w go {place}", AtAnEnd)
                else:
                    self.check_says(console, f"w go {place}", ",".join(best_moves(web, place, "first")))
                for share in chance.sample(shares_around([Fraction(*needed)]), 4):
                    written = f"{share[0]}/{share[1]}"
                    self.check_says(console, f"w wins {place} {written}", winner(web, place, share))
                    moves = moves_to_win(web, place, share)
                    told = console.say(f"w moves {place} {written}")
                    self.assertEqual(told, "never" if moves is None else str(moves))
                    found |= {told, console.say(f"w wins {place} {written}")}
            self.assertEqual(told_of(console), before)
        self.assertLessEqual({"never", "0", "1", "3", "first", "second", "open"}, found)

    def test_several_best_moves(self):
        console = Console()
        console.say("w = a: b x y z / b: a z / x = 0/1 / y = 1/1 / z = 0/1")
        self.check_says(console, "w go a", "x,z")
        self.check_says(console, "w go b", "z")

    def test_names_that_are_the_words_of_lines(self):
        console = Console()
        for word in WORDS:
            self.check_says(console, f"{word} = a: b x / b: a y / x = 0/1 / y = 1/1", "4")
            self.check_says(console, f"{word} need b", "2/3")
            self.check_says(console, f"{word} wins a 2/5", "first")
            self.check_says(console, f"{word} moves a 2/5", "3")
            self.check_says(console, f"{word} go a", "x")
            self.check_says(console, f"{word} least a 1/3", "ok")
            self.check_says(console, f"{word} most a 1/3", "ok")
            self.check_says(console, f"{word} within a 3 3/8", "ok")
            self.check_says(console, f"{word} order a b", "ok")
            self.assertEqual([claim[1] for claim in console.book.claims], [word] * 4)
            for index in (3, 2, 1, 0):
                self.check_error_of(console, f"drop {word}", InUse, index=0)
                console.book.lift(index)
        for word in WORDS:
            self.check_says(console, f"drop {word}", "ok")
            self.assertIs(word in console.book, False)
            self.check_error_of(console, f"drop {word}", UnknownName, given=word)
        self.assertEqual(len(console.book), 0)


class TestErrors(ConsoleCase):
    def test_unknown_names(self):
        console = begun()
        for name in ("h", "gg", "for", "drop", "undo", "abcdefgh"):
            for line in (
                f"drop {name}", f"{name} least a 1/3", f"{name} most q 1/3", f"{name} within a 0 0/1",
                f"{name} order q q", f"{name} need q", f"{name} wins a 1/2", f"{name} moves a 1/2", f"{name} go x",
            ):
                self.check_error_of(console, line, UnknownName, given=name)

    def test_errors_of_what_is_done(self):
        console = begun()
        console.say("fork most a 2/3")
        self.check_error_of(console, "drop g", InUse, index=0)
        self.check_error_of(console, "drop fork", InUse, index=2)
        self.check_error_of(console, "g = m = 3/7", Broken, index=0)
        self.check_error_of(console, "fork = a: c / b: c / c = 1/1", Broken, index=2)
        for line in (
            "g least a 1/2", "g most a 1/4", "g within a 2 3/8", "g order b a", "g least q 0/1", "g most q 1/1",
            "g within q 60 1/1", "g order q y", "g order x q",
        ):
            self.check_error_of(console, line, Broken, index=3)
        for line in ("g need q", "g wins q 1/2", "g moves q 1/2", "g go q", "g need c"):
            self.check_error_of(console, line, UnknownPlace, given=line.split(" ")[2])
        for line in ("g go x", "fork go y"):
            self.check_error_of(console, line, AtAnEnd)

    def test_values_that_are_no_strings(self):
        console = begun()
        for value in odd_values():
            self.check_no_line(console, value)
        for value in (["undo"], ("undo",), b"undo", {"undo": 1}, 1, None):
            self.check_no_line(console, value)

    def test_spaces_too_many_or_too_few(self):
        console = begun()
        for line in (
            SET_LINE, "drop fork", "undo", "g least a 1/3", "g most a 1/3", "g within a 3 3/8", "g order a b",
            "g need b", "g wins a 2/5", "g moves a 2/5", "g go a", "h need b", "drop h",
        ):
            self.check_no_line(console, " " + line)
            self.check_no_line(console, line + " ")
            self.check_no_line(console, line + "\n")
            self.check_no_line(console, "\n" + line)
            self.check_no_line(console, line.upper())
            self.check_no_line(console, line + " a")
            self.check_no_line(console, line + " 1/2")
            for at, sign in enumerate(line):
                if sign == " ":
                    self.check_no_line(console, line[:at] + " " + line[at:])
                    self.check_no_line(console, line[:at] + "\n" + line[at + 1:])
                    self.check_no_line(console, line[:at] + line[at + 1:])

    def test_other_lines(self):
        console = begun()
        for line in (
            "", " ", "drop", "g", "=", "g =", "g = ", "= a = 1/1", "g = a", "g need", "g go", "g wins a", "g order a",
            "undo undo", "undo g", "undo drop", "g undo", "g drop", "drop g g", "drop G", "drop abcdefghi", "drop 1",
            "drop a1", "drop =", "drop drop drop", "g lift 0", "lift 0", "claim", "g has a", "g least a", "g least 1/3",
            "g least a 1/3 1/3", "g within a 3/8", "g within 3 a 3/8", "g within a 3/8 3", "g within a 3", "g order a",
            "g order a b c", "g order ab", "g order a ab", "g order a 1", "g need a b", "g need ab", "g need A",
            "g need 1", "g wins a b", "g wins 2/5 a", "g wins a 2/5 first", "g go a first", "G need a", "g1 need a",
            "abcdefghi need a", "need g a", "g Need a", "g NEED a", "g  need a", "g need  a", "g.need.a", "g,need,a",
            "g order a a,b", "g go a,b", "help", "quit", "g == m = 1/2", "g=m = 1/2", "g : a = 1/2", "x" * 4000,
        ):
            self.check_no_line(console, line)

    def test_texts_that_are_none(self):
        console = begun()
        for text in (
            "a: b", "a: b / b: a", "a = 2/4", "a = 1/2 / a = 1/2", "b = 1/2 / a = 1/2", "a = 3/2", "a = -1/2", "a = 1",
            "a = 1/2 /", "a = 1/2 / ", "/ a = 1/2", " / a = 1/2", "a = 1/2 / / b = 1/2", "a = 1/2/ b = 1/2",
            "a = 1/2 /b = 1/2", "a = 1/2  /  b = 1/2", "a = 1/2\nb = 1/2", "a: b\nb = 1/2", "a: b / b = 1/2\n",
            "a = 1 / 2", "a = 1/1000000000001", "a: b b / b = 1/2", "a: c b / b = 1/2 / c = 1/2", "a : b / b = 1/2",
            "a:b / b = 1/2", "a:  b / b = 1/2", "a = 01/2", "a = +1/2", "a = 1/2 ", " a = 1/2", "ab = 1/2", "A = 1/2",
            " / ".join(f"{place} = 0/1" for place in "abcdefghijk"), "a=1/2", "(a = 1/2)", "a = 1/2; b = 1/2",
        ):
            for name in ("g", "new", "drop"):
                self.check_no_line(console, f"{name} = {text}")
        self.check_says(console, "new = " + " / ".join(f"{place} = 0/1" for place in "abcdefghij"), "10")
        for name in ("G", "abcdefghi", "", "1", "a1", "a-b", "g g"):
            self.check_no_line(console, f"{name} = a = 1/2")

    def test_numbers_not_as_str_writes_them(self):
        console = begun()
        for number in (
            "1", "1/", "/2", "/", "2/4", "0/2", "01/2", "1/02", "+1/2", "-1/2", "1/-2", "1/+2", "1/0", "0/0", "3/2",
            "1/2/1", "1//2", "0.5", "1e0/2", "1_0/11", "1/2.", "(1/2)", "1:2", "1,2", "half", "a", "", "1 /2",
            "00/1", "-0/1", "0x1/2", "1/1_1", "2/2", "1/2/", "True/1",
        ):
            for line in (f"g least a {number}", f"g most a {number}", f"g within a 3 {number}",
                         f"g wins a {number}", f"g moves a {number}"):
                self.check_no_line(console, line)
        for moves in ("61", "-1", "+1", "00", "01", "060", "1_0", "3.0", "", "a", "True", "1e1", "600", "9" * 40, "0x3"):
            self.check_no_line(console, f"g within a {moves} 1/1")
        # A share may have any bottom, a part may not.
        for line in ("g least a", "g most a", "g within y 3"):
            self.check_no_line(console, f"{line} 1/1000000000001")
        self.check_says(console, "g wins a 1/1000000000001", "second")
        tiny = pair(Fraction(1, 3) + TINY)
        self.check_says(console, f"g wins a {tiny[0]}/{tiny[1]}", "first")
        self.check_says(console, f"g moves a {tiny[0]}/{tiny[1]}", "never")
        self.check_says(console, "g moves a 1/1", "1")
        self.check_says(console, "g moves x 1/2", "0")
        self.check_says(console, "g wins a 0/1", "second")

    def test_wrong_lines_ahead_of_unknown_names(self):
        console = begun()
        for line in ("h need ab", "h wins a 2/4", "h within a 61 1/1", "h least a 1/1000000000001", "h go"):
            self.check_no_line(console, line)


class TestTheBook(ConsoleCase):
    def test_changed_from_outside(self):
        console = Console()
        console.book["g"] = LINE
        console.book.claim(("most", "g", "a", (1, 3)))
        self.check_says(console, "g need a", "1/3")
        self.check_error_of(console, "drop g", InUse, index=0)
        self.check_says(console, "undo", "ok")
        self.check_says(console, "drop g", "ok")
        with console.book.trial():
            self.check_says(console, SET_FORK, "5")
        self.assertEqual(len(console.book), 0)
        self.assertEqual(console.book.changes, 2)

    def test_behind_each_line(self):
        console, book = Console(), Book()
        for line, deed in (
            (SET_LINE, ("set", "g", LINE)), ("g most a 1/3", ("claim", ("most", "g", "a", (1, 3)))),
            (SET_FORK, ("set", "fork", FORK)), ("fork order b a", ("claim", ("order", "fork", "b", "a"))),
            (line_for("fork", FORK), ("set", "fork", FORK)), (SET_LINE.replace("g", "h", 1), ("set", "h", LINE)),
            ("drop h", ("drop", "h")),
        ):
            console.say(line)
            book.do_all(deed)
            self.assertEqual(told_of(console), (
                book.names, book.claims, book.changes, [book[name] for name in book.names]
            ))


if __name__ == "__main__":
    unittest.main()
