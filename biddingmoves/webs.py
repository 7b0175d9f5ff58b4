"""Webs: places with arrows between them, and ends with numbers."""

from biddingmoves.errors import (
    AtAnEnd, InvalidMove, InvalidPart, InvalidRows, InvalidText, NotAnEnd, NotAWeb, NoWay, UnknownPlace,
)
from biddingmoves.kinds import is_ascending, is_letter, is_one_of, is_part, is_row, is_string, pair_in, written
from biddingmoves.limits import MOST_PLACES


def is_arrows(what):
    """Whether it is an ascending tuple of one or more letters."""
    if not is_row(what) or len(what) == 0:
        return False
    return all([is_letter(to) for to in what]) and is_ascending(what)


def is_pair(pair):
    """Whether it is a place with arrows or a number."""
    if not is_row(pair) or len(pair) != 2 or not is_letter(pair[0]):
        return False
    return is_part(pair[1]) or is_arrows(pair[1])


def arrows_of(what):
    """Where arrows lead; none lead away from an end."""
    return () if is_part(what) else what


def first_stuck(rows):
    """The first place from which no arrows lead to an end, None if there is none."""
    led = {place: True for place, what in rows if is_part(what)}
    # Each round goes one arrow back from what was found, and no shortest way has more arrows than there are places.
    for _ in rows:
        for place, what in rows:
            if any([to in led for to in arrows_of(what)]):
                led[place] = True
    for pair in rows:
        if pair[0] not in led:
            return pair[0]
    return None


def are_rows(rows):
    """Whether they are rows of a web."""
    if not is_row(rows) or not 1 <= len(rows) <= MOST_PLACES:
        return False
    if not all([is_pair(pair) for pair in rows]):
        return False
    places = [pair[0] for pair in rows]
    if not is_ascending(places):
        return False
    leads = [to for pair in rows for to in arrows_of(pair[1])]
    return all([to in places for to in leads]) and first_stuck(rows) is None


def line_of(place, what):
    """The line of the text for one place."""
    if is_part(what):
        return f"{place} = {written(what)}"
    return f"{place}: " + " ".join(what)


def pair_of(line):
    """What a line of a text says, not checked but for its signs; None if it says nothing."""
    if line[1:4] == " = ":
        return line[0], pair_in(line[4:])
    if line[1:3] == ": ":
        return line[0], tuple(line[3:].split(" "))
    return None


def replaced(rows, place, what):
    """The rows with something else at one place."""
    return tuple([(spot, what if spot == place else old) for spot, old in rows])


def turned_what(what):
    """The arrows as they are, or 1 less the number."""
    if not is_part(what):
        return what
    top, bottom = what
    return bottom - top, bottom


def check_arrow(arrows, to):
    """Raises the error of what is no place where these arrows lead."""
    if not is_one_of(to, arrows):
        raise InvalidMove(to)


class Web:
    """A web: it never changes."""

    def __init__(self, rows):
        if not are_rows(rows):
            raise InvalidRows(rows)
        self._rows = rows

    @staticmethod
    def read(text):
        """The web that has this text."""
        if not is_string(text):
            raise InvalidText(text)
        rows = tuple([pair_of(line) for line in text.split("\n")])
        if not are_rows(rows):
            raise InvalidText(text)
        return Web(rows)

    @property
    def rows(self):
        """The rows."""
        return self._rows

    @property
    def text(self):
        """The text, a line for each place."""
        return str(self)

    @property
    def places(self):
        """All places, ascending."""
        return tuple([pair[0] for pair in self._rows])

    @property
    def ends(self):
        """The ends, ascending."""
        return tuple([place for place, what in self._rows if is_part(what)])

    def arrows(self, place):
        """Where the arrows of the place lead, () for an end."""
        return arrows_of(self._what(place))

    def number(self, place):
        """The number of an end."""
        what = self._what(place)
        if not is_part(what):
            raise NotAnEnd()
        return what

    def with_arrow(self, place, to):
        """The web with one arrow more."""
        arrows = self.arrows(place)
        if not is_one_of(to, self.places):
            raise InvalidMove(to)
        if arrows == ():
            raise AtAnEnd()
        if to in arrows:
            return self
        return Web(replaced(self._rows, place, tuple(sorted([*arrows, to]))))

    def without_arrow(self, place, to):
        """The web with one arrow less."""
        arrows = self.arrows(place)
        check_arrow(arrows, to)
        rows = replaced(self._rows, place, tuple([spot for spot in arrows if spot != to]))
        stuck = first_stuck(rows)
        if stuck is not None:
            raise NoWay(stuck)
        return Web(rows)

    def with_number(self, place, part):
        """The web in which an end has another number."""
        what = self._what(place)
        if not is_part(part):
            raise InvalidPart(part)
        if not is_part(what):
            raise NotAnEnd()
        return Web(replaced(self._rows, place, part))

    def turned(self):
        """The web in which each end's number is 1 less what it was."""
        return Web(tuple([(place, turned_what(what)) for place, what in self._rows]))

    def _what(self, place):
        if not is_one_of(place, self.places):
            raise UnknownPlace(place)
        return dict(self._rows)[place]

    def __eq__(self, other):
        return type(other) is Web and self._rows == other._rows

    def __str__(self):
        return "\n".join([line_of(place, what) for place, what in self._rows])


def check_web(web):
    """Raises the error of what is no web."""
    if type(web) is not Web:
        raise NotAWeb(web)


def check_place(web, place):
    """Raises the error of what is no web, or else of what is no place of it."""
    check_web(web)
    if not is_one_of(place, web.places):
        raise UnknownPlace(place)
