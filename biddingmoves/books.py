"""Books: webs under names, with claims that hold after each change."""

from biddingmoves.errors import (
    Broken, InUse, InvalidClaim, InvalidDeeds, InvalidIndex, InvalidName, NothingToUndo, UnknownName,
)
from biddingmoves.kinds import has_form, is_below, is_integer, is_letter, is_moves, is_one_of, is_part, is_string
from biddingmoves.matches import Trial
from biddingmoves.moves import need_within
from biddingmoves.needs import need
from biddingmoves.webs import check_web

_MOST_LETTERS = 8
_CLAIMS = (("least", 4), ("most", 4), ("within", 5), ("order", 4))
_DEEDS = (("set", 3), ("drop", 2), ("claim", 2), ("lift", 2))


def is_name(value):
    """Whether it is a name."""
    if not is_string(value) or not 1 <= len(value) <= _MOST_LETTERS:
        return False
    return all([is_letter(sign) for sign in value])


def is_book_claim(claim):
    """Whether it has one of the forms of claims, whatever stands in the place of the name."""
    if not has_form(claim, _CLAIMS) or not is_letter(claim[2]):
        return False
    if claim[0] == "order":
        return is_letter(claim[3])
    if claim[0] == "within":
        return is_moves(claim[3]) and is_part(claim[4])
    return is_part(claim[3])


def holds(claim, web):
    """Whether the claim holds of this web."""
    word, _, place = claim[:3]
    if place not in web.places:
        return False
    if word == "within":
        return not is_below(claim[4], need_within(web, place, claim[3]))
    if word == "order":
        return claim[3] in web.places and not is_below(need(web, claim[3]), need(web, place))
    if word == "least":
        return not is_below(need(web, place), claim[3])
    return not is_below(claim[3], need(web, place))


def check_claims(claims, name, web):
    """Raises an error with the index of the first claim of this name that does not hold of this web."""
    for index, claim in enumerate(claims):
        if claim[1] == name and not holds(claim, web):
            raise Broken(index)


def check_deeds(deeds):
    """Raises an error with the index of the first one that is no deed."""
    for index, deed in enumerate(deeds):
        if not has_form(deed, _DEEDS):
            raise InvalidDeeds(index)


class Book:
    """A book: it changes by its methods and by setting items, and all changes can be taken back."""

    def __init__(self):
        # From the beginning on, the present one last: pairs of a dict of the webs, which is never changed, and the
        # tuple of the claims. Since all claims held ahead of a change, only those that it touches are looked at.
        self._past = (({}, ()),)

    @property
    def names(self):
        """The names, ascending."""
        return tuple(sorted(self._past[-1][0]))

    @property
    def claims(self):
        """The claims, in their order."""
        return self._past[-1][1]

    @property
    def changes(self):
        """How many changes can be taken back."""
        return len(self._past) - 1

    def drop(self, name):
        """Takes away the web under this name."""
        self._check_name(name)
        webs, claims = self._past[-1]
        for index, claim in enumerate(claims):
            if claim[1] == name:
                raise InUse(index)
        self._change({key: webs[key] for key in webs if key != name}, claims)

    def claim(self, claim):
        """Makes one claim more, behind the others."""
        if not is_book_claim(claim):
            raise InvalidClaim(claim)
        self._check_name(claim[1])
        webs, claims = self._past[-1]
        if not holds(claim, webs[claim[1]]):
            raise Broken(len(claims))
        self._change(webs, (*claims, claim))

    def lift(self, index):
        """Takes away the claim at this index."""
        webs, claims = self._past[-1]
        if not is_integer(index) or not 0 <= index < len(claims):
            raise InvalidIndex(index)
        self._change(webs, claims[:index] + claims[index + 1:])

    def undo(self):
        """Takes back the last change that has not been taken back."""
        if self.changes == 0:
            raise NothingToUndo()
        self._past = self._past[:-1]

    def do_all(self, *deeds, watch=None):
        """Does all of these changes, or none if an error comes out; returns how many."""
        check_deeds(deeds)
        before = self._past
        done = None
        try:
            for deed in deeds:
                self._do(deed)
                if watch is not None:
                    watch(self)
            done = len(deeds)
        finally:
            if done is None:
                self._past = before
        return done

    def trial(self):
        """For a `with` statement, behind whose rows the book is as it was."""
        return Trial(self)

    def tried(self, action):
        """What the function returns that is called with the book within a trial."""
        with self.trial() as held:
            return action(held)

    def _check_name(self, name):
        if name not in self:
            raise UnknownName(name)

    def _change(self, webs, claims):
        self._past = (*self._past, (webs, claims))

    def _do(self, deed):
        word = deed[0]
        if word == "set":
            self[deed[1]] = deed[2]
        elif word == "drop":
            self.drop(deed[1])
        elif word == "claim":
            self.claim(deed[1])
        else:
            self.lift(deed[1])

    def __setitem__(self, at, worth):
        """Puts a web under a name."""
        if not is_name(at):
            raise InvalidName(at)
        check_web(worth)
        webs, claims = self._past[-1]
        check_claims(claims, at, worth)
        self._change({**webs, at: worth}, claims)

    def __getitem__(self, at):
        """The web under this name."""
        self._check_name(at)
        return self._past[-1][0][at]

    def __iter__(self):
        raise TypeError("iterate over the names of a book")

    def __contains__(self, x):
        return is_one_of(x, self._past[-1][0])

    def __len__(self):
        return len(self._past[-1][0])
