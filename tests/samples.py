"""Webs and odd values that several tests use."""

import random

from biddingmoves.errors import InvalidRows, NotAnEnd
from biddingmoves.webs import Web

LINE_ROWS = (("a", ("b", "x")), ("b", ("a", "y")), ("x", (0, 1)), ("y", (1, 1)))
FORK_TEXT = "a: b c\nb: x y\nc: a y\nx = 0/1\ny = 1/1"
TEN_ROWS = tuple((place, (chr(ord(place) + 1),)) for place in "abcdefghi") + (("j", (2, 7)),)
LETTERS = "abcdefghijklmnopqrstuvwxyz"


class Agree:
    """Equal to everything."""

    def __eq__(self, other):
        return True

    def __hash__(self):
        return hash("a")


class Refuse:
    """Fails whatever is asked of it."""

    def fail(self, *told):
        raise AssertionError("a given object was asked")

    __eq__ = __ne__ = __lt__ = __gt__ = __le__ = __ge__ = __hash__ = __bool__ = fail
    __len__ = __iter__ = __getitem__ = __contains__ = __str__ = __repr__ = __index__ = __int__ = fail


class Posing:
    """Says that it is of another class."""

    def __init__(self, kind):
        self.kind = kind

    @property
    def __class__(self):
        return self.kind


class AgreeingClass(type):
    """A class of classes that are equal to everything."""

    def __eq__(cls, other):
        return True

    __hash__ = type.__hash__


class Agreed(metaclass=AgreeingClass):
    """Of a class that is equal to each other one."""


def nested(kind, depth):
    value = kind()
    for _ in range(depth - 1):
        value = kind([value])
    return value


def odd_values():
    """Values of many kinds; none is a place of a web without `q`, rows, a text of a web or a part."""
    return [
        None, True, False, 0, 1, -1, 7, 10 ** 39, 1j, ..., NotImplemented,
        "", " ", "q", "A", "aa", "a ", "a: b", "0/1", "first", "x" * 4000, b"a", bytearray(b"a"),
        (), ((),), ("q",), ["a"], [], [0, 1], [1, 2], {}, {"a": 1}, {0: 0, 1: 1}, set(), frozenset("a"), range(2),
        (True, True), (False, 1), (0, True), (2, 4), (0, 2), (1, 0), (0, 0), (3, 2), (-1, 2), (1, -2), (-1, -2),
        (1,), (1, 2, 3), ("1", "2"), (None, 1), ((1, 2), (1, 2)), (1, 10 ** 12 + 1),
        nested(tuple, 10), nested(list, 10), list(LINE_ROWS), int, tuple, str, Web, len, lambda web: web,
        object(), Agree(), Refuse(), Posing(str), Posing(tuple), Posing(int), Posing(Web), (Agree(), Agree()),
        (Refuse(), Refuse()), (Posing(int), Posing(int)), Agreed, Agreed(), (Agreed(), Agreed()), Web(LINE_ROWS), InvalidRows(1), NotAnEnd(), ValueError("a"),
    ]


def is_reference_share(what):
    """Written apart from the program: whether it is a fraction from 0 to 1."""
    if type(what) is not tuple or len(what) != 2 or any(type(n) is not int for n in what):
        return False
    n, d = what
    if not 0 <= n <= d or d == 0:
        return False
    while n:
        n, d = d % n, n
    return d == 1


def is_reference_part(what):
    """Written apart from the program: whether it is a part."""
    return is_reference_share(what) and what[1] <= 10 ** 12


def leads_to_end(what, place):
    """Whether from this place arrows lead to some end, by the dict of the rows."""
    seen, queue = {place}, [place]
    while queue:
        here = queue.pop()
        if is_reference_part(what[here]):
            return True
        for to in what[here]:
            if to not in seen:
                seen.add(to)
                queue.append(to)
    return False


def is_reference_rows(rows):
    """Written apart from the program: whether they are rows of a web."""
    if type(rows) is not tuple or not 1 <= len(rows) <= 10:
        return False
    if any(type(pair) is not tuple or len(pair) != 2 for pair in rows):
        return False
    places = [pair[0] for pair in rows]
    if any(type(place) is not str or len(place) != 1 or place not in LETTERS for place in places):
        return False
    if sorted(set(places)) != places:
        return False
    for _, what in rows:
        if is_reference_part(what):
            continue
        if type(what) is not tuple or any(type(to) is not str for to in what):
            return False
        if not what or sorted(set(what)) != list(what) or not set(what) <= set(places):
            return False
    return all(leads_to_end(dict(rows), place) for place in places)


def random_part(chance):
    return chance.choice([(0, 1), (1, 1), (1, 2), (2, 3), (1, 10 ** 12), (10 ** 12 - 1, 10 ** 12), (5, 7)])


def random_rows(chance):
    """Pairs that are rows of a web more often than not."""
    places = sorted(chance.sample(LETTERS, chance.randint(1, 10)))
    rows = []
    for place in places:
        if chance.random() < 0.3:
            rows.append((place, random_part(chance)))
        else:
            many = min(len(places), chance.randint(1, 3))
            rows.append((place, tuple(sorted(chance.sample(places, many)))))
    return tuple(rows)


def random_webs(seed, many):
    """So many webs, the same for the same seed."""
    chance = random.Random(seed)
    webs = []
    while len(webs) < many:
        rows = random_rows(chance)
        if is_reference_rows(rows):
            webs.append(Web(rows))
    return webs
