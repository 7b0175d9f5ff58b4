"""Matches: the stone is moved, and moves are taken back."""

from biddingmoves.bids import ahead, check_bid, purse
from biddingmoves.errors import AtAnEnd, NothingToUndo
from biddingmoves.kinds import check_share, check_side, difference, is_below, total
from biddingmoves.needs import winner
from biddingmoves.webs import check_arrow, check_place


class Held:
    """The past that a trial gives back; `outer` is what it keeps besides, if it stands within itself."""

    def __init__(self, past, outer):
        self.past = past
        self.outer = outer


class Trial:
    """For a `with` statement: behind its rows a match, or a book, has the past again that it had ahead of them."""

    def __init__(self, owner):
        self._owner = owner
        self._held = None

    def __enter__(self):
        self._held = Held(self._owner._past, self._held)
        return self._owner

    def __exit__(self, kind, value, trace):
        owner = self._owner
        owner._past = self._held.past
        self._held = self._held.outer


class Match:
    """A match on a web: it changes by its moves, which can be taken back."""

    def __init__(self, web, place, share):
        check_place(web, place)
        check_share(share)
        self._web = web
        self._past = ((place, share),)

    @property
    def web(self):
        """The web on which it is played."""
        return self._web

    @property
    def place(self):
        """Where the stone is."""
        return self._past[-1][0]

    @property
    def share(self):
        """What first has of all the money."""
        return self._past[-1][1]

    @property
    def changes(self):
        """How many moves were made and not taken back."""
        return len(self._past) - 1

    @property
    def is_over(self):
        """Whether the stone is at an end."""
        return self.place in self._web.ends

    @property
    def leader(self):
        """Who wins for certain, or has won; "open" if the share is the need."""
        return winner(self._web, self.place, self.share)

    @property
    def surplus(self):
        """The share less the need."""
        return ahead(self._web, self.place, self.share)

    @property
    def trail(self):
        """The pairs of a place and a share from the beginning on."""
        return self._past

    def play(self, first_bid, first_to, second_bid, second_to, paying="first"):
        """Both bid; the one who bids more, or is told to pay, pays the bid to the other one and moves the stone."""
        arrows = self._web.arrows(self.place)
        if arrows == ():
            raise AtAnEnd()
        share = self.share
        check_bid(first_bid, purse(share, "first"))
        check_arrow(arrows, first_to)
        check_bid(second_bid, purse(share, "second"))
        check_arrow(arrows, second_to)
        check_side(paying)
        if is_below(second_bid, first_bid) or (first_bid == second_bid and paying == "first"):
            behind = (first_to, difference(share, first_bid))
        else:
            behind = (second_to, total(share, second_bid))
        self._past = (*self._past, behind)

    def undo(self):
        """Takes back the last move that has not been taken back."""
        if self.changes == 0:
            raise NothingToUndo()
        self._past = self._past[:-1]

    def trial(self):
        """For a `with` statement, behind whose rows the match is as it was."""
        return Trial(self)

    def tried(self, action):
        """What the function returns that is called with the match within a trial."""
        with self.trial() as held:
            return action(held)
