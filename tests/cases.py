"""What the tests of functions of webs have in common."""

import inspect
import random
import unittest
from fractions import Fraction
from math import gcd

from biddingmoves.errors import InvalidNumber, InvalidShare, InvalidSide, NotAWeb, UnknownPlace
from biddingmoves.webs import Web
from samples import FORK_TEXT, LETTERS, LINE_ROWS, is_reference_rows, is_reference_share, odd_values, random_webs

LINE = Web(LINE_ROWS)
FORK = Web.read(FORK_TEXT)
TINY = Fraction(1, 10 ** 39)
HALF = Fraction(1, 2)


def pair(number):
    """The pair that the document calls a fraction."""
    number = Fraction(number)
    return number.numerator, number.denominator


def shares_around(numbers):
    """These numbers, with those just below and just above, with 0, 1 and some between; as far as they are shares."""
    near = [number + more for number in numbers for more in (-TINY, 0, TINY)]
    near += [Fraction(0), Fraction(1), HALF, Fraction(1, 3), Fraction(2, 3), 1 - TINY, TINY]
    return [pair(number) for number in sorted(set(near)) if 0 <= number <= 1]


def random_big_webs(seed, many):
    """Webs with up to ten places, with few arrows or many, and with ends of any numbers."""
    chance = random.Random(seed)
    webs = []
    while len(webs) < many:
        places = LETTERS[:chance.randint(2, 10)]
        ends = chance.sample(places, chance.randint(1, min(4, len(places))))
        most = chance.choice([2, 3, len(places)])
        rows = []
        for place in places:
            if place in ends:
                bottom = chance.choice([1, 2, 3, 7, 10 ** 12, 10 ** 12 - 11, chance.randint(1, 10 ** 12)])
                rows.append((place, pair(Fraction(chance.randint(0, bottom), bottom))))
            else:
                arrows = chance.sample(places, chance.randint(1, min(most, len(places))))
                rows.append((place, tuple(sorted(arrows))))
        if is_reference_rows(tuple(rows)):
            webs.append(Web(tuple(rows)))
    return webs


def line_of(many):
    """So many places in a row, with an end of 0 in front of them and one of 1 behind them."""
    rows = [("a", (0, 1))]
    rows += [(LETTERS[at], (LETTERS[at - 1], LETTERS[at + 1])) for at in range(1, many + 1)]
    return Web(tuple(rows) + ((LETTERS[many + 1], (1, 1)),))


def some_webs():
    """Webs of all the forms that matter, a few of each."""
    all_places = tuple("abcdefghij")
    full = tuple((place, all_places) for place in "abcdefgh") + (("i", (1, 10 ** 12)), ("j", (10 ** 12 - 1, 10 ** 12)))
    round_of_five = tuple((place, (to, end)) for place, to, end in zip("bcde", "cdef", "ghij"))
    bottoms = ((2, 10 ** 12 - 1), (1, 10 ** 12), (10 ** 12 - 12, 10 ** 12 - 11), (7, 10 ** 12 - 39))
    odd_ends = (("a", (1, 999999999989)),) + round_of_five + (("f", ("a", "b")),) + tuple(zip("ghij", bottoms))
    texts = [
        "m = 3/7", "a = 0/1\nb = 1/1\nc = 1/2", "a: z\nz = 2/7", "a: a z\nz = 2/7", "a: b c\nb = 1/5\nc = 4/5",
        "a: b\nb: c\nc: d\nd: a z\nz = 3/8", "a: b\nb: c\nc: d y\nd: a z\ny = 1/1\nz = 0/1",
        "a: a b\nb: a b y z\ny = 1/4\nz = 9/10", "a: a b z\nb: a b y\ny = 1/1\nz = 0/1",
        "a: b x y\nb: a c\nc: a c y\nx = 1/2\ny = 1/2", "a: b y z\nb: a y z\ny = 1/3\nz = 1/3",
        "a: b c\nb: d e\nc: e f\nd = 0/1\ne = 1/2\nf = 1/1", "a: b c\nb: a c\nc: a b z\nz = 5/9",
    ]
    webs = [LINE, FORK, Web(full), Web(odd_ends)] + [Web.read(text) for text in texts]
    return webs + [line_of(many) for many in (1, 2, 3, 8)] + random_webs(7, 20) + random_big_webs(8, 20)


def wrong_webs():
    values = [value for value in odd_values() if type(value) is not Web]
    return values + [LINE_ROWS, FORK_TEXT, Web, [LINE], (LINE,)]


def wrong_places(web):
    return odd_values() + [letter for letter in LETTERS if letter not in web.places] + [web, ("a",), ["a"], b"a", "ab"]


def wrong_fractions():
    """What is no fraction from 0 to 1."""
    values = [value for value in odd_values() if not is_reference_share(value)]
    more = [(1, 0), (1, -2), (1, True), (1, None), (1, "2"), (1, (2,)), (1, [2]), (True, 2), (True, 1), [1, 2]]
    more += [(2, 4), (3, 6), (0, 2), (0, 10 ** 12), (10 ** 39, 10 ** 39), (2, 1), (5, 4), (-1, 4), (-1, 1), (0, -1)]
    return values + more + [(1, 2, 1), (1, 1j), "1/2", ((1, 2),), (10 ** 39 + 1, 10 ** 39), (-1, 10 ** 39)]


def wrong_sides():
    values = [value for value in odd_values() if type(value) is not str or value != "first"]
    return values + ["third", "First", "FIRST", "firs", "first ", " second", "secondfirst", "firstsecond", "open",
                     ("first",), ["second"], ("first", "second"), b"first", "f"]


def wrong_moves():
    values = [value for value in odd_values() if not (type(value) is int and 0 <= value <= 60)]
    return values + [-1, 61, 62, 600, -60, 10 ** 39, -10 ** 39, True, False, "1", (1,), [1], (60, 1), b"1"]


def web_argument(web):
    return "web", web, NotAWeb, wrong_webs()


def place_argument(web, place):
    return "place", place, UnknownPlace, wrong_places(web)


def share_argument(share, name="share"):
    return name, share, InvalidShare, wrong_fractions()


def side_argument(side):
    return "side", side, InvalidSide, wrong_sides()


def moves_argument(moves):
    return "moves", moves, InvalidNumber, wrong_moves()


class WebCase(unittest.TestCase):
    def check_fraction(self, told):
        """It is a pair of integers in lowest terms."""
        self.assertIs(type(told), tuple)
        self.assertEqual([type(part) for part in told], [int, int])
        self.assertGreaterEqual(told[1], 1)
        self.assertEqual(gcd(told[0], told[1]), 1)

    def check_error(self, kind, given, call, *told, **named):
        with self.assertRaises(kind) as caught:
            call(*told, **named)
        self.assertIs(type(caught.exception), kind)
        self.assertIs(caught.exception.given, given)

    def check_arguments(self, call, *arguments, last=None):
        """Each argument is a name, a right value, the error of wrong ones and these; `last` is raised behind them."""
        right = [argument[1] for argument in arguments]
        names = [argument[0] for argument in arguments]
        self.assertEqual(list(inspect.signature(call).parameters)[:len(names)], names)
        for at, (name, _, kind, values) in enumerate(arguments):
            for value in values:
                told = right[:at] + [value] + right[at + 1:]
                self.check_error(kind, value, call, *told)
                self.check_error(kind, value, call, **dict(zip(names, told)))
                # Whatever else is wrong behind it, it is told first.
                for later in range(at + 1, len(arguments)):
                    for wrong in (arguments[later][3][0], arguments[later][3][-1], value):
                        both = told[:later] + [wrong] + told[later + 1:]
                        self.check_error(kind, value, call, *both)
                self.check_error(kind, value, call, *right[:at] + [value] * (len(right) - at))
        if last is not None:
            with self.assertRaises(last) as caught:
                call(*right)
            self.assertIs(type(caught.exception), last)

    def check_same(self, call, *told):
        """By place, by name in any order, and asked again, the same is told; returns it."""
        rows = [(value, value.rows) for value in told if type(value) is Web]
        first = call(*told)
        names = list(inspect.signature(call).parameters)
        named = dict(zip(names, told))
        self.assertEqual(call(**named), first)
        self.assertEqual(call(**{name: named[name] for name in reversed(names)}), first)
        self.assertEqual(call(*[Web(value.rows) if type(value) is Web else value for value in told]), first)
        for web, before in rows:
            self.assertIs(web.rows, before)
        return first
