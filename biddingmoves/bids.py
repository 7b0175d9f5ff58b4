"""Which bids keep the win, whatever the other side does."""

from biddingmoves.errors import AtAnEnd, InvalidBid
from biddingmoves.kinds import check_share, check_side, difference, is_below, is_share, lowest
from biddingmoves.needs import need, need_tops
from biddingmoves.webs import check_arrow, check_place


def purse(share, side):
    """What this side has of all the money."""
    return share if side == "first" else difference((1, 1), share)


def check_bid(bid, most):
    """Raises the error of what is no fraction from 0 to what a side has."""
    if not is_share(bid) or is_below(most, bid):
        raise InvalidBid(bid)


def check_move(web, place, to):
    """Raises an error at an end, or else for where no arrow of the place leads."""
    arrows = web.arrows(place)
    if arrows == ():
        raise AtAnEnd()
    check_arrow(arrows, to)


def bounds(web, place, share, side, to):
    """Just the bids between these two are safe; there are none if the first one is not below the other one."""
    tops, bottom = need_tops(web)
    leads = [tops[spot] for spot in web.arrows(place)]
    there = lowest(tops[to], bottom)
    if side == "first":
        return difference(lowest(max(leads), bottom), share), difference(share, there)
    return difference(share, lowest(min(leads), bottom)), difference(there, share)


def safe_bids(web, place, share, side, to):
    """The pair between which bids with this move are safe, None if no bid is."""
    check_place(web, place)
    check_share(share)
    check_side(side)
    check_move(web, place, to)
    low, high = bounds(web, place, share, side, to)
    # Needs are from 0 to 1: so if anything lies between both, then also a bid that the side has.
    return (low, high) if is_below(low, high) else None


def is_safe(web, place, share, side, bid, to):
    """Whether this bid with this move is safe."""
    check_place(web, place)
    check_share(share)
    check_side(side)
    check_bid(bid, purse(share, side))
    check_move(web, place, to)
    low, high = bounds(web, place, share, side, to)
    return is_below(low, bid) and is_below(bid, high)


def ahead(web, place, share):
    """The share less the need."""
    check_place(web, place)
    check_share(share)
    return difference(share, need(web, place))
