"""What a further arrow, an arrow less or another number of an end changes."""

from biddingmoves.errors import InvalidNumber, NotAnEnd, NoWay
from biddingmoves.kinds import check_share, difference, is_below, is_integer, lowest
from biddingmoves.limits import MOST_BITS
from biddingmoves.needs import need, needs
from biddingmoves.webs import check_place


def gain_of_arrow(web, asked, place, to):
    """By how much the need of the place `asked` is less with one arrow more."""
    check_place(web, asked)
    wider = web.with_arrow(place, to)
    return difference(need(web, asked), need(wider, asked))


def free_pairs(web):
    """All pairs between which there is no arrow and can be one, ascending."""
    ends = web.ends
    places = [place for place in web.places if place not in ends]
    return [(place, to) for place in places for to in web.places if to not in web.arrows(place)]


def helping(web, asked):
    """The pairs whose arrow makes the need of `asked` the least one that one arrow more can make it."""
    least = need(web, asked)
    pairs = []
    for place, to in free_pairs(web):
        wanted = need(web.with_arrow(place, to), asked)
        if is_below(wanted, least):
            least = wanted
            pairs = [(place, to)]
        elif wanted == least and pairs != []:
            # Without a pair so far the least need is the one of the web as it is.
            pairs = pairs + [(place, to)]
    return tuple(pairs)


def is_needless(web, place, to, wanted):
    """Whether without this arrow there still is a web, with the needs that are wanted."""
    try:
        narrower = web.without_arrow(place, to)
    except NoWay:
        return False
    return needs(narrower) == wanted


def needless(web):
    """The pairs of the arrows without which, each alone, all needs are the same."""
    wanted = needs(web)
    arrows = [(place, to) for place in web.places for to in web.arrows(place)]
    return tuple([(place, to) for place, to in arrows if is_needless(web, place, to, wanted)])


def need_with(web, asked, end, part):
    """The need of `asked` if this end has another number."""
    check_place(web, asked)
    return need(web.with_number(end, part), asked)


def least_need(web, asked, end):
    """The need of `asked` if this end has the number 0."""
    return need_with(web, asked, end, (0, 1))


def greatest_need(web, asked, end):
    """The need of `asked` if this end has the number 1."""
    return need_with(web, asked, end, (1, 1))


def check_bits(bits):
    """Raises the error of a wrong number of bits."""
    if not is_integer(bits) or not 0 <= bits <= MOST_BITS:
        raise InvalidNumber(bits)


def greatest_number(web, asked, end, share, bits):
    """The greatest number m / 2 ** bits of this end with which the need of `asked` is at most the share, or None."""
    check_place(web, asked)
    check_place(web, end)
    check_share(share)
    check_bits(bits)
    if end not in web.ends:
        raise NotAnEnd()
    bottom = 1 << bits
    # All m below `low` are small enough, and none from `high` on is: the need never falls when the number rises.
    low = 0
    high = bottom + 1
    while low < high:
        middle = (low + high) // 2
        if is_below(share, need_with(web, asked, end, lowest(middle, bottom))):
            high = middle
        else:
            low = middle + 1
    return None if low == 0 else lowest(low - 1, bottom)
