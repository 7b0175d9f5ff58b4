import inspect
import random
import unittest
from fractions import Fraction

from biddingmoves import books as module
from biddingmoves.books import Book
from biddingmoves.errors import (
    Broken, InUse, InvalidClaim, InvalidDeeds, InvalidIndex, InvalidName, NotAWeb, NothingToUndo, UnknownName,
)
from biddingmoves.moves import need_within
from biddingmoves.needs import need
from biddingmoves.webs import Web
from cases import FORK, LINE, WebCase, pair, some_webs, wrong_webs
from samples import LETTERS, is_reference_part, odd_values

ALONE = Web.read("m = 3/7")
HOLDING = (
    ("least", "g", "a", (1, 3)), ("most", "g", "a", (1, 3)), ("within", "g", "a", 3, (3, 8)), ("order", "g", "a", "b"),
)
NOT_HOLDING = (
    ("least", "g", "a", (1, 2)), ("most", "g", "a", (1, 4)), ("within", "g", "a", 2, (3, 8)), ("order", "g", "b", "a"),
)


class Stopped(Exception):
    """Raised by tests in the middle of deeds and trials."""


def is_reference_name(value):
    return type(value) is str and 1 <= len(value) <= 8 and all(sign in LETTERS for sign in value)


def is_reference_claim(claim):
    """Written apart from the program: whether it has one of the forms, whatever stands in the place of the name."""
    if type(claim) is not tuple or not 4 <= len(claim) <= 5 or type(claim[0]) is not str:
        return False

    def is_letter(value):
        return type(value) is str and len(value) == 1 and value in LETTERS

    if not is_letter(claim[2]):
        return False
    if claim[0] == "within":
        return len(claim) == 5 and type(claim[3]) is int and 0 <= claim[3] <= 60 and is_reference_part(claim[4])
    if len(claim) == 5:
        return False
    if claim[0] == "order":
        return is_letter(claim[3])
    return claim[0] in ("least", "most") and is_reference_part(claim[3])


def wrong_names():
    values = [value for value in odd_values() if not is_reference_name(value)]
    return values + ["", "abcdefghi", "a" * 100, "A", "aB", "a1", "1", "a b", " a", "a ", "a_b", "a-b", ("a",), ["a"],
                     b"a", "ab\n", "\n", slice(0, 1)]


def wrong_claims():
    """What has none of the forms."""
    right = [*HOLDING, ("order", "g", "x", "y"), ("within", "g", "x", 60, (0, 1)), ("least", "g", "x", (0, 1))]
    values = [claim for claim in odd_values() if not is_reference_claim(claim)]
    for claim in right:
        values += [list(claim), claim[:-1], (*claim, "a"), (*claim, (1, 2)), claim[1:], (claim,), claim[::-1], claim[:0]]
        for at in range(len(claim)):
            values += [(*claim[:at], *claim[at + 1:])]
            if at != 1:
                values += [(*claim[:at], odd, *claim[at + 1:]) for odd in odd_values()]
        values += [(word, *claim[1:]) for word in ("needs", "above", "Least", "", "leas", "at least", "with", None, 1)]
    values += [("within", "g", "a", moves, (3, 8)) for moves in (-1, 61, True, False, "3", (3,), None, 10 ** 39)]
    values += [("within", "g", "a", (3, 8), 3), ("within", "g", "a", (3, 8)), ("within", "g", "a", 3)]
    for part in ((1, 10 ** 12 + 1), (2, 4), (3, 2), (-1, 2), (1, 0), (0, 2), (True, 1), [1, 3], 1, "1/3", (1, 3, 1)):
        values += [(word, "g", "a", part) for word in ("least", "most")] + [("within", "g", "a", 3, part)]
    values += [("order", "g", "a", other) for other in ("ab", "", "A", "1", ("b",), ["b"], None, b"b", (1, 3))]
    values += [(word, "g", place, (1, 3)) for word in ("least", "most") for place in ("ab", "", "A", ("a",), b"a", 0)]
    return [claim for claim in values if not is_reference_claim(claim)]


def web_of(*pairs):
    return Web(tuple(pairs))


def told_of(book):
    return book.names, book.claims, book.changes, [book[name] for name in book.names], len(book)


def begun():
    """A book with two webs and four claims: six changes."""
    book = Book()
    book["g"] = LINE
    book["fork"] = FORK
    for claim in HOLDING:
        book.claim(claim)
    return book


def holds(claim, webs):
    """Written apart from the program, but for what is needed: whether a claim holds with these webs."""
    word, name, place, *more = claim
    web = webs[name]
    if place not in web.places:
        return False
    needed = Fraction(*need(web, place))
    if word == "least":
        return needed >= Fraction(*more[0])
    if word == "most":
        return needed <= Fraction(*more[0])
    if word == "within":
        return Fraction(*need_within(web, place, more[0])) <= Fraction(*more[1])
    return more[0] in web.places and needed <= Fraction(*need(web, more[0]))


class BookCase(WebCase):
    def check_index(self, kind, index, call, *told, **named):
        with self.assertRaises(kind) as caught:
            call(*told, **named)
        self.assertIs(type(caught.exception), kind)
        self.assertIs(type(caught.exception.index), int)
        self.assertEqual(caught.exception.index, index)

    def set_item(self, book, name, web):
        book[name] = web

    def check_unchanged(self, book, kind, given, call, *told):
        """The error is raised with what was given, and nothing is changed."""
        before = told_of(book)
        self.check_error(kind, given, call, *told)
        self.assertEqual(told_of(book), before)


class TestExamples(BookCase):
    def test_examples_of_the_document(self):
        book = Book()
        done = book.do_all(
            ("set", "g", LINE), ("claim", ("most", "g", "a", (1, 3))), ("claim", ("within", "g", "a", 3, (3, 8))),
            ("claim", ("order", "g", "a", "b")),
        )
        self.assertEqual((done, book.names, len(book.claims), book.changes), (4, ("g",), 3, 4))
        self.assertIsNone(book.undo())
        self.assertEqual(book.claims[-1][0], "within")
        self.check_index(Broken, 0, self.set_item, book, "g", FORK)
        self.assertEqual((book.changes, book["g"]), (3, LINE))

    def test_interface(self):
        self.assertEqual(Book.__module__, "biddingmoves.books")
        self.assertIs(module.Book, Book)
        for name in ("names", "claims", "changes"):
            self.assertIs(type(vars(Book)[name]), property)
        wanted = {
            "__init__": "self", "drop": "self name", "claim": "self claim", "lift": "self index", "undo": "self",
            "do_all": "self deeds watch", "trial": "self", "tried": "self action",
        }
        for name, parameters in wanted.items():
            self.assertEqual(list(inspect.signature(vars(Book)[name]).parameters), parameters.split())
        for name in ("__getitem__", "__setitem__", "__contains__", "__len__"):
            self.assertIn(name, vars(Book))
        watch = inspect.signature(Book.do_all).parameters["watch"]
        self.assertEqual((watch.kind, watch.default), (watch.KEYWORD_ONLY, None))

    def test_at_first(self):
        book = Book()
        self.assertEqual((book.names, book.claims, book.changes, len(book)), ((), (), 0, 0))
        self.assertIs(bool(book), False)
        self.assertRaises(NothingToUndo, book.undo)

    def test_one_object_is_equal_to_itself_alone(self):
        book, other = begun(), begun()
        self.assertEqual(told_of(book), told_of(other))
        self.assertIs(book == book, True)
        self.assertIs(book != book, False)
        self.assertIs(book == other, False)
        self.assertIs(book != other, True)
        self.assertIs(Book() == Book(), False)
        for value in (None, 0, "g", (), LINE, book.names):
            self.assertIs(book == value, False)
            self.assertIs(book != value, True)


class TestWebs(BookCase):
    def test_names_that_are_new_and_that_are_there(self):
        book = Book()
        for at, name in enumerate(["z", "abcdefgh", "a", "drop", "undo"]):
            book[name] = LINE
            self.assertIs(book[name], LINE)
            self.assertEqual(book.changes, at + 1)
        self.assertEqual(book.names, ("a", "abcdefgh", "drop", "undo", "z"))
        self.assertIs(type(book.names), tuple)
        book["drop"] = FORK
        self.assertIs(book["drop"], FORK)
        self.assertIs(book["undo"], LINE)
        self.assertEqual((len(book), book.changes), (5, 6))
        self.assertIs(bool(book), True)

    def test_names_that_are_none(self):
        book = begun()
        for name in wrong_names():
            for web in (LINE, None):
                self.check_unchanged(book, InvalidName, name, self.set_item, book, name, web)

    def test_webs_that_are_none(self):
        book = begun()
        for name in ("g", "new", "abcdefgh"):
            for web in wrong_webs():
                self.check_unchanged(book, NotAWeb, web, self.set_item, book, name, web)

    def test_names_that_are_not_there(self):
        book = begun()
        for name in wrong_names() + ["a", "gg", "gfork", "for", "forks", "x"]:
            self.assertIs(name in book, False)
            self.check_unchanged(book, UnknownName, name, lambda name: book[name], name)
            self.check_unchanged(book, UnknownName, name, book.drop, name)
        self.assertIs("g" in book, True)
        self.assertIs("fork" in book, True)
        self.assertIs("g" not in book, False)
        self.assertIs(LINE in book, False)
        self.assertIs(HOLDING[0] in book, False)
        self.assertIs("g" in Book(), False)

    def test_drop(self):
        book = begun()
        self.assertIsNone(book.drop("fork"))
        self.assertEqual((book.names, book.changes, len(book)), (("g",), 7, 1))
        self.assertIs("fork" in book, False)
        book["fork"] = LINE
        self.assertIsNone(book.drop(name="fork"))
        self.check_unchanged(book, UnknownName, "fork", book.drop, "fork")

    def test_drop_what_a_claim_needs(self):
        book = begun()
        self.check_index(InUse, 0, book.drop, "g")
        book.claim(("most", "fork", "a", (1, 1)))
        book["alone"] = ALONE
        book.claim(("least", "alone", "m", (3, 7)))
        book.claim(("least", "fork", "a", (0, 1)))
        before = told_of(book)
        for name, index in (("g", 0), ("fork", 4), ("alone", 5)):
            self.check_index(InUse, index, book.drop, name)
        self.assertEqual(told_of(book), before)
        book.lift(4)
        self.check_index(InUse, 5, book.drop, "fork")
        book.lift(5)
        book.drop("fork")
        self.check_index(InUse, 4, book.drop, "alone")
        for _ in range(4):
            self.check_index(InUse, 0, book.drop, "g")
            book.lift(0)
        book.drop("g")
        self.assertEqual((book.names, book.claims), (("alone",), (("least", "alone", "m", (3, 7)),)))

    def test_places_and_names_in_claims_are_not_mixed(self):
        book = Book()
        book["a"] = LINE
        book["b"] = LINE
        book["least"] = LINE
        book.claim(("order", "a", "a", "b"))
        self.assertIsNone(book.drop("b"))
        self.assertIsNone(book.drop("least"))
        self.check_index(InUse, 0, book.drop, "a")


class TestClaims(BookCase):
    def test_claims_that_hold(self):
        book = Book()
        book["g"] = LINE
        for at, claim in enumerate(HOLDING):
            self.assertIsNone(book.claim(claim))
            self.assertEqual(book.claims, HOLDING[:at + 1])
            self.assertIs(book.claims[at], claim)
            self.assertEqual(book.changes, at + 2)
        self.assertIsNone(book.claim(claim=HOLDING[0]))
        self.assertEqual(book.claims, (*HOLDING, HOLDING[0]))

    def test_claims_that_do_not(self):
        for many in range(4):
            book = Book()
            book["g"] = LINE
            for claim in HOLDING[:many]:
                book.claim(claim)
            before = told_of(book)
            for claim in NOT_HOLDING:
                self.check_index(Broken, many, book.claim, claim)
                self.assertEqual(told_of(book), before)

    def test_just_holding_and_just_not(self):
        tiny = Fraction(1, 10 ** 12)
        book = Book()
        book["g"] = Web.read("a: b c\nb: a c\nc = 1/999999999989")
        book["h"] = LINE
        wanted = Fraction(1, 999999999989)
        for word, sign in (("least", 1), ("most", -1)):
            book.claim((word, "g", "a", pair(wanted)))
            near = pair(Fraction(1, 999999999989 - sign))
            self.check_index(Broken, book.changes - 2, book.claim, (word, "g", "a", near))
            book.claim((word, "h", "x" if word == "least" else "y", (0, 1) if word == "least" else (1, 1)))
            beyond = tiny if word == "least" else 1 - tiny
            end = "x" if word == "least" else "y"
            self.check_index(Broken, book.changes - 2, book.claim, (word, "h", end, pair(beyond)))
        for moves, needed in ((0, (1, 1)), (1, (1, 2)), (3, (3, 8)), (5, (11, 32))):
            book.claim(("within", "h", "a", moves, needed))
            less = pair(Fraction(*needed) - tiny)
            self.check_index(Broken, book.changes - 2, book.claim, ("within", "h", "a", moves, less))
        book.claim(("within", "h", "a", 60, pair(Fraction(1, 3) + Fraction(1, 10 ** 11))))
        self.check_index(Broken, book.changes - 2, book.claim, ("within", "h", "a", 60, (1, 3)))
        book.claim(("order", "h", "a", "a"))
        book.claim(("order", "h", "x", "a"))
        self.check_index(Broken, book.changes - 2, book.claim, ("order", "h", "a", "x"))
        same = web_of(("a", ("z",)), ("b", ("a",)), ("z", (1, 2)))
        book["s"] = same
        for place in "abz":
            for other in "abz":
                book.claim(("order", "s", place, other))

    def test_places_that_are_none(self):
        book = Book()
        book["g"] = LINE
        for claim in (
            ("least", "g", "q", (0, 1)), ("most", "g", "q", (1, 1)), ("within", "g", "q", 60, (1, 1)),
            ("order", "g", "q", "y"), ("order", "g", "x", "q"), ("order", "g", "q", "q"),
        ):
            self.check_index(Broken, 0, book.claim, claim)

    def test_all_places_of_many_webs(self):
        chance = random.Random(71)
        found = {True: 0, False: 0}
        for web in some_webs():
            book = Book()
            book["g"] = web
            for place in web.places:
                parts = [(0, 1), (1, 1), (1, 2), pair(Fraction(chance.randint(0, 20), 20)), need(web, place)]
                moves = chance.choice([0, 1, 4, 60])
                claims = [(word, "g", place, part) for word in ("least", "most") for part in parts]
                claims += [("within", "g", place, moves, part) for part in parts]
                claims += [("order", "g", place, other) for other in (*web.places, "q")]
                for claim in claims:
                    if not is_reference_claim(claim):
                        self.check_error(InvalidClaim, claim, book.claim, claim)
                        continue
                    wanted = holds(claim, {"g": web})
                    found[wanted] += 1
                    if wanted:
                        book.claim(claim)
                        self.assertIs(book.claims[-1], claim)
                    else:
                        self.check_index(Broken, len(book.claims), book.claim, claim)
        self.assertGreater(min(found.values()), 500)

    def test_what_has_none_of_the_forms(self):
        book = begun()
        for claim in wrong_claims():
            self.check_unchanged(book, InvalidClaim, claim, book.claim, claim)
        # Whatever stands in the place of the name.
        for name in (None, "q", "", ["g"], "G"):
            for claim in (("least", name, "a", (2, 4)), ("order", name, "ab", "b"), ("within", name, "a", 61, (1, 1))):
                self.check_unchanged(book, InvalidClaim, claim, book.claim, claim)

    def test_names_that_are_not_there(self):
        book = begun()
        for name in wrong_names() + ["a", "gg", "for"]:
            for claim in HOLDING + NOT_HOLDING:
                self.check_unchanged(book, UnknownName, name, book.claim, (claim[0], name, *claim[2:]))

    def test_another_web_for_the_same_name(self):
        book = begun()
        before = told_of(book)
        self.check_index(Broken, 1, self.set_item, book, "g", FORK)
        self.check_index(Broken, 0, self.set_item, book, "g", ALONE)
        self.check_index(Broken, 0, self.set_item, book, "g", LINE.with_arrow("b", "x"))
        self.check_index(Broken, 1, self.set_item, book, "g", LINE.with_arrow("a", "y"))
        # The need of `a` is the same without this arrow, but it is needed to win within three moves.
        longer = Web.read("a: b c\nb: a y\nc: d\nd: x\nx = 0/1\ny = 1/1")
        self.assertEqual(need(longer, "a"), (1, 3))
        self.check_index(Broken, 2, self.set_item, book, "g", longer)
        self.assertEqual(told_of(book), before)
        other = Web.read("a: x z\nb: x z\nx = 0/1\nz = 2/3")
        book["g"] = other
        self.assertIs(book["g"], other)
        book.claim(("order", "g", "b", "a"))
        self.check_index(Broken, 4, self.set_item, book, "g", LINE)
        book["fork"] = ALONE

    def test_claims_of_other_names_are_left_alone(self):
        book = begun()
        book.claim(("least", "fork", "a", (2, 3)))
        book.claim(("most", "g", "b", (2, 3)))
        self.check_index(Broken, 4, self.set_item, book, "fork", LINE)
        self.check_index(Broken, 1, self.set_item, book, "g", FORK)
        book["h"] = ALONE
        self.check_index(Broken, 6, book.claim, ("most", "h", "m", (2, 5)))


class TestLift(BookCase):
    def test_both_ends_and_between(self):
        book = begun()
        self.assertIsNone(book.lift(3))
        self.assertEqual(book.claims, HOLDING[:3])
        self.assertIsNone(book.lift(0))
        self.assertEqual(book.claims, HOLDING[1:3])
        book.claim(HOLDING[0])
        self.assertIsNone(book.lift(index=1))
        self.assertEqual(book.claims, (HOLDING[1], HOLDING[0]))
        book.lift(0)
        book.lift(0)
        self.assertEqual((book.claims, book.changes), ((), 12))
        self.check_unchanged(book, InvalidIndex, 0, book.lift, 0)

    def test_what_is_no_index(self):
        book = begun()
        odd = [value for value in odd_values() if not (type(value) is int and 0 <= value < 4)]
        for index in odd + [4, 5, -1, -4, 10 ** 39, -10 ** 39, True, False, None, "0", (0,), [0], b"0", slice(0, 1)]:
            self.check_unchanged(book, InvalidIndex, index, book.lift, index)
        for index in (0, -1, True, 1):
            self.check_error(InvalidIndex, index, Book().lift, index)


class TestUndo(BookCase):
    def test_each_kind_of_change(self):
        book = begun()
        seen = [told_of(book)]
        for change in (
            lambda: self.set_item(book, "new", ALONE),
            lambda: self.set_item(book, "new", FORK),
            lambda: self.set_item(book, "new", FORK),
            lambda: book.claim(("least", "new", "a", (2, 3))),
            lambda: book.claim(("least", "new", "a", (2, 3))),
            lambda: book.lift(4),
            lambda: book.lift(0),
            lambda: book.lift(3),
            lambda: book.drop("new"),
            lambda: self.set_item(book, "g", LINE),
            lambda: self.set_item(book, "g", Web(LINE.rows)),
        ):
            self.assertIsNone(change())
            self.assertEqual(book.changes, seen[-1][2] + 1)
            seen.append(told_of(book))
        for wanted in seen[-2::-1]:
            self.assertIsNone(book.undo())
            self.assertEqual(told_of(book), wanted)

    def test_back_to_the_beginning_and_once_more(self):
        book = begun()
        names, claims = [], []
        while book.changes > 0:
            names.append(book.names)
            claims.append(len(book.claims))
            book.undo()
        self.assertEqual(claims, [4, 3, 2, 1, 0, 0])
        self.assertEqual(names, [("fork", "g")] * 5 + [("g",)])
        for _ in range(2):
            self.assertRaises(NothingToUndo, book.undo)
            self.assertEqual(told_of(book), told_of(Book()))
        book["a"] = ALONE
        self.assertEqual((book.names, book.changes), (("a",), 1))

    def test_a_name_that_came_anew(self):
        book = Book()
        book["a"] = LINE
        book["a"] = FORK
        book.drop("a")
        book["a"] = ALONE
        webs = []
        while book.changes > 0:
            webs.append(book["a"] if "a" in book else None)
            book.undo()
        self.assertEqual(webs, [ALONE, None, FORK, LINE])

    def test_what_was_told_stays_as_it_is(self):
        book = begun()
        names, claims = book.names, book.claims
        book["new"] = ALONE
        book.lift(1)
        self.assertEqual((names, claims), (("fork", "g"), HOLDING))
        self.assertIs(type(claims), tuple)


class TestDoAll(BookCase):
    def test_none_and_several(self):
        book = Book()
        self.assertEqual(book.do_all(), 0)
        self.assertEqual(book.do_all(watch=None), 0)
        self.assertEqual(book.changes, 0)
        done = book.do_all(("set", "g", LINE), ("claim", HOLDING[0]), ("claim", HOLDING[3]), ("lift", 0),
                           ("set", "h", FORK), ("drop", "h"), ("set", "g", LINE))
        self.assertIs(type(done), int)
        self.assertEqual((done, book.changes, book.names, book.claims), (7, 7, ("g",), (HOLDING[3],)))
        book.undo()
        book.undo()
        self.assertEqual((book.changes, book.names), (5, ("g", "h")))

    def test_deeds_that_fail(self):
        right = (("set", "n", ALONE), ("claim", ("least", "n", "m", (3, 7))), ("lift", 0), ("drop", "fork"))
        for deed, kind, named in (
            (("set", "N", LINE), InvalidName, {"given": "N"}),
            (("set", "g", LINE.rows), NotAWeb, {"given": LINE.rows}),
            (("set", "g", FORK), Broken, {"index": 0}),
            (("set", None, None), InvalidName, {"given": None}),
            (("drop", "fork"), UnknownName, {"given": "fork"}),
            (("drop", "g"), InUse, {"index": 0}),
            (("drop", None), UnknownName, {"given": None}),
            (("claim", ("least", "g", "a", 1)), InvalidClaim, {"given": ("least", "g", "a", 1)}),
            (("claim", ("least", "fork", "a", (1, 1))), UnknownName, {"given": "fork"}),
            (("claim", ("least", "g", "a", (1, 1))), Broken, {"index": 4}),
            (("claim", None), InvalidClaim, {"given": None}),
            (("lift", 4), InvalidIndex, {"given": 4}),
            (("lift", None), InvalidIndex, {"given": None}),
            (("lift", True), InvalidIndex, {"given": True}),
        ):
            for behind in ((), (("drop", "g"),), (("lift", 77), ("drop", "q"))):
                book = begun()
                before = told_of(book)
                with self.assertRaises(kind) as caught:
                    book.do_all(*right, deed, *behind)
                self.assertIs(type(caught.exception), kind)
                self.assertEqual(vars(caught.exception), named)
                self.assertEqual(told_of(book), before)
                self.check_undone(book)

    def check_undone(self, book):
        """All that was done ahead can be taken back."""
        for many in range(book.changes - 1, -1, -1):
            book.undo()
            self.assertEqual(book.changes, many)
        self.assertEqual(told_of(book), told_of(Book()))

    def test_what_is_no_deed(self):
        odd = odd_values() + [("set",), ("set", "g"), ("set", "g", LINE, None), ("drop",), ("drop", "g", "g"), ("claim",), ("lift",)]
        odd += [("claim", *HOLDING[0]), HOLDING[0], ("lift", 0, 1), ("undo",), ("undo", 1), ("Set", "g", LINE), "drop"]
        odd += [["set", "g", LINE], ["drop", "g"], (["drop"], "g"), (None, "g"), ("dro", "g"), ("put", "g", LINE), "lift"]
        odd += [(b"drop", "g"), ("drop", ("g",), None), (1, 2), (True, 2), ("", "g"), (("drop", "g"),), {"drop": "g"}]
        seen = []
        for deed in odd:
            for ahead, behind in (((), ()), ((("drop", "q"),), (None,)), ((("set", "n", LINE), ("lift", 9)), ())):
                book = begun()
                before = told_of(book)
                self.check_index(InvalidDeeds, len(ahead), book.do_all, *ahead, deed, *behind, watch=seen.append)
                self.assertEqual(told_of(book), before)
        self.assertEqual(seen, [])

    def test_watch_is_called_behind_each_deed(self):
        book = begun()
        seen = []
        deeds = (
            ("set", "n", ALONE), ("claim", ("least", "n", "m", (3, 7))), ("lift", 0), ("drop", "fork"), ("lift", 3),
        )

        def watch(watched):
            self.assertIs(watched, book)
            seen.append((watched.names, len(watched.claims), watched.changes))

        wanted = [
            (("fork", "g", "n"), 4, 7), (("fork", "g", "n"), 5, 8), (("fork", "g", "n"), 4, 9), (("g", "n"), 4, 10),
            (("g", "n"), 3, 11),
        ]
        self.assertEqual(book.do_all(*deeds, watch=watch), 5)
        self.assertEqual(seen, wanted)
        # Also behind deeds ahead of one that fails.
        book = begun()
        before = told_of(book)
        del seen[:]
        self.assertRaises(InvalidIndex, book.do_all, *deeds, ("lift", 3), ("drop", "n"), watch=watch)
        self.assertEqual(seen, wanted)
        self.assertEqual(told_of(book), before)
        del seen[:]
        self.assertEqual(book.do_all(watch=watch), 0)
        self.assertEqual(seen, [])

    def test_watch_with_a_trial_in_it(self):
        book = begun()
        seen = []
        done = book.do_all(("set", "n", ALONE), ("drop", "n"), watch=lambda held: seen.append(
            held.tried(lambda inner: [inner.do_all(("set", "o", LINE), ("drop", "fork")), inner.names])
        ))
        self.assertEqual(done, 2)
        self.assertEqual(seen, [[2, ("g", "n", "o")], [2, ("g", "o")]])
        self.assertEqual((book.names, book.changes), (("fork", "g"), 8))

    def test_errors_of_watch(self):
        for kind in (Stopped, KeyError, StopIteration, KeyboardInterrupt, InvalidDeeds):
            for last in range(3):
                book = begun()
                before = told_of(book)
                seen = []
                stopped = kind(0)

                def watch(watched):
                    seen.append(watched.changes)
                    if len(seen) > last:
                        raise stopped

                with self.assertRaises(kind) as caught:
                    book.do_all(("set", "n", ALONE), ("lift", 0), ("drop", "fork"), watch=watch)
                self.assertIs(caught.exception, stopped)
                self.assertEqual(seen, [7, 8, 9][:last + 1])
                self.assertEqual(told_of(book), before)
                self.check_undone(book)

    def test_watch_that_is_false(self):
        class Quiet:
            def __init__(self):
                self.many = 0

            def __bool__(self):
                return False

            def __call__(self, book):
                self.many += 1
                return "stop"

        quiet = Quiet()
        self.assertEqual(begun().do_all(("lift", 0), ("lift", 0), watch=quiet), 2)
        self.assertEqual(quiet.many, 2)


class TestTrials(BookCase):
    def check_as_before(self, book, before):
        self.assertEqual(told_of(book), before)
        while book.changes > 0:
            book.undo()
        self.assertEqual(told_of(book), told_of(Book()))

    def test_ended_by_its_rows_a_return_and_an_exception(self):
        book = begun()
        before = told_of(book)
        with book.trial() as held:
            self.assertIs(held, book)
            book["g"] = LINE
            book.lift(0)
            self.assertEqual(book.changes, 8)
        self.assertEqual(told_of(book), before)

        def names_behind():
            with book.trial():
                book.drop("fork")
                return book.names

        self.assertEqual(names_behind(), ("g",))
        self.assertEqual(told_of(book), before)
        stopped = Stopped()
        with self.assertRaises(Stopped) as caught:
            with book.trial():
                book["new"] = ALONE
                raise stopped
        self.assertIs(caught.exception, stopped)
        with self.assertRaises(Broken):
            with book.trial():
                book.drop("fork")
                book["g"] = FORK
        self.check_as_before(book, before)

    def test_further_back_than_where_it_began(self):
        book = begun()
        before = told_of(book)
        with book.trial():
            while book.changes > 0:
                book.undo()
            self.assertRaises(NothingToUndo, book.undo)
            book["new"] = ALONE
            self.assertEqual((book.names, book.changes), (("new",), 1))
        self.check_as_before(book, before)

    def test_trials_within_trials_also_the_same_one(self):
        book = begun()
        before = told_of(book)
        trial = book.trial()
        with trial:
            book.lift(0)
            inside = told_of(book)
            with trial as held:
                self.assertIs(held, book)
                book.undo()
                book.undo()
                with book.trial(), trial:
                    book.do_all(("set", "new", ALONE), ("drop", "new"))
                self.assertEqual(book.changes, 5)
            self.assertEqual(told_of(book), inside)
        self.check_as_before(book, before)

    def test_a_trial_that_is_only_made(self):
        book = begun()
        before = told_of(book)
        trial = book.trial()
        book.lift(0)
        del trial
        self.assertEqual(book.changes, 7)
        book.undo()
        self.check_as_before(book, before)

    def test_tried(self):
        book = begun()
        before = told_of(book)
        self.assertEqual(book.tried(lambda held: [held is book, held.lift(0), held.claims]), [True, None, HOLDING[1:]])
        self.assertEqual(book.tried(action=lambda held: held.do_all(("drop", "fork"))), 1)
        self.assertRaises(InUse, book.tried, lambda held: [held.lift(0), held.drop("g")])
        self.assertIs(book.tried(lambda held: held), book)
        self.check_as_before(book, before)


class TestRandomBooks(BookCase):
    """Against a plain model of what the document says."""

    def random_deed(self, chance, webs):
        name = chance.choice(["a", "b", "c", "C"])
        word = chance.choice(["set", "set", "drop", "claim", "claim", "claim", "lift"])
        if word == "set":
            return word, name, chance.choice(webs)
        if word == "drop":
            return word, name
        if word == "lift":
            return word, chance.randint(-1, 5)
        part = chance.choice([(0, 1), (1, 3), (1, 2), (2, 3), (1, 1)])
        kind = chance.choice(["least", "most", "within", "order"])
        more = {"within": (chance.randint(0, 4), part), "order": (chance.choice("abxy"),)}.get(kind, (part,))
        return word, (kind, name, chance.choice("abxyq"), *more)

    def wanted(self, webs, claims, deed):
        """The pair of webs and claims behind it, or the error with its attribute."""
        word, what = deed[:2]
        if word == "lift":
            return (webs, claims[:what] + claims[what + 1:]) if 0 <= what < len(claims) else (InvalidIndex, what)
        if word == "set" and what == "C":
            return InvalidName, what
        if word == "set":
            after, claims_after = {**webs, what: deed[2]}, claims
        elif word == "claim":
            if what[1] not in webs:
                return UnknownName, what[1]
            after, claims_after = webs, [*claims, what]
        elif what not in webs:
            return UnknownName, what
        else:
            users = [index for index, claim in enumerate(claims) if claim[1] == what]
            return (InUse, users[0]) if users else ({name: webs[name] for name in webs if name != what}, claims)
        wrong = [index for index, claim in enumerate(claims_after) if not holds(claim, after)]
        return (Broken, wrong[0]) if wrong else (after, claims_after)

    def do(self, book, deed):
        if deed[0] == "set":
            book[deed[1]] = deed[2]
        else:
            getattr(book, deed[0])(deed[1])

    def test_deeds_one_by_one_and_together(self):
        chance = random.Random(72)
        webs = [LINE, FORK, LINE.with_arrow("b", "x"), LINE.turned(), Web.read("a: x y\nb: a\nx = 0/1\ny = 2/3"), ALONE]
        found = {}
        for _ in range(60):
            book, states = Book(), [({}, [])]
            for _ in range(40):
                deed = self.random_deed(chance, webs)
                told = self.wanted(*states[-1], deed)
                if type(told[0]) is dict:
                    self.assertEqual(book.do_all(deed), 1) if chance.random() < 0.5 else self.do(book, deed)
                    states.append(told)
                else:
                    with self.assertRaises(told[0]) as caught:
                        book.do_all(deed) if chance.random() < 0.5 else self.do(book, deed)
                    self.assertEqual(list(vars(caught.exception).values()), [told[1]])
                    found[told[0]] = found.get(told[0], 0) + 1
                if chance.random() < 0.1 and len(states) > 1:
                    book.undo()
                    states.pop()
                self.assertEqual({name: book[name] for name in book.names}, states[-1][0])
                self.assertEqual(book.names, tuple(sorted(states[-1][0])))
                self.assertEqual(book.claims, tuple(states[-1][1]))
                self.assertEqual((book.changes, len(book)), (len(states) - 1, len(states[-1][0])))
                # All claims of the book hold.
                self.assertTrue(all(holds(claim, states[-1][0]) for claim in book.claims))
        self.assertEqual(set(found), {InvalidIndex, InvalidName, UnknownName, InUse, Broken})
        self.assertGreater(min(found.values()), 20)


class TestWhatIsPassedStays(BookCase):
    def test_webs_and_deeds(self):
        rows, claim = LINE.rows, HOLDING[2]
        deeds = (("set", "g", LINE), ("claim", claim))
        book = Book()
        book.do_all(*deeds)
        book["g"] = LINE
        self.assertIs(book["g"], LINE)
        self.assertIs(LINE.rows, rows)
        self.assertIs(book.claims[0], claim)
        self.assertEqual(claim, ("within", "g", "a", 3, (3, 8)))
        self.assertEqual(deeds, (("set", "g", LINE), ("claim", claim)))


if __name__ == "__main__":
    unittest.main()
