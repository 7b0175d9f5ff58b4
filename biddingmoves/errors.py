"""The errors, each under one of three base classes."""


class WrongValue(ValueError):
    """A value is of the wrong kind or form."""

    def __init__(self):
        """Nothing is kept here; the classes below keep their own."""


class InvalidRows(WrongValue):
    """No rows of a web."""

    def __init__(self, given):
        self.given = given


class InvalidText(WrongValue):
    """No text of a web."""

    def __init__(self, given):
        self.given = given


class InvalidPart(WrongValue):
    """No part."""

    def __init__(self, given):
        self.given = given


class InvalidShare(WrongValue):
    """No fraction from 0 to 1."""

    def __init__(self, given):
        self.given = given


class InvalidBid(WrongValue):
    """No fraction that the side can bid."""

    def __init__(self, given):
        self.given = given


class InvalidMove(WrongValue):
    """No place where the stone, or the arrow, can go."""

    def __init__(self, given):
        self.given = given


class InvalidPlan(WrongValue):
    """No plan for the web."""

    def __init__(self, given):
        self.given = given


class InvalidSide(WrongValue):
    """Neither "first" nor "second"."""

    def __init__(self, given):
        self.given = given


class InvalidNumber(WrongValue):
    """No integer within the limits."""

    def __init__(self, given):
        self.given = given


class InvalidName(WrongValue):
    """No name for a web of a book."""

    def __init__(self, given):
        self.given = given


class InvalidClaim(WrongValue):
    """No claim of a book."""

    def __init__(self, given):
        self.given = given


class InvalidIndex(WrongValue):
    """No index of a claim."""

    def __init__(self, given):
        self.given = given


class InvalidLine(WrongValue):
    """No line of the console."""

    def __init__(self, given):
        self.given = given


class NotAWeb(WrongValue):
    """No web."""

    def __init__(self, given):
        self.given = given


class InvalidDeeds(WrongValue):
    """No deed stands at this index."""

    def __init__(self, index):
        self.index = index


class WrongName(LookupError):
    """A name is not there, or is needed."""

    def __init__(self):
        """Nothing is kept here; the classes below keep their own."""


class UnknownPlace(WrongName):
    """No place of the web."""

    def __init__(self, given):
        self.given = given


class UnknownName(WrongName):
    """No name of the book."""

    def __init__(self, given):
        self.given = given


class InUse(WrongName):
    """The claim at this index needs the name."""

    def __init__(self, index):
        self.index = index


class NoAnswer(ArithmeticError):
    """What is asked for does not exist here."""

    def __init__(self):
        """Nothing is kept here; the classes below keep their own."""


class NotAnEnd(NoAnswer):
    """The place is no end."""


class AtAnEnd(NoAnswer):
    """The place is an end."""


class NoWay(NoAnswer):
    """From this place no arrows lead to an end."""

    def __init__(self, spot):
        self.spot = spot


class NothingToUndo(NoAnswer):
    """There is no change that could be taken back."""


class Broken(NoAnswer):
    """The claim at this index would not hold."""

    def __init__(self, index):
        self.index = index
