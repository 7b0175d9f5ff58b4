"""Claims with papers for the checker."""

from biddingmoves.bids import check_bid, is_safe
from biddingmoves.kinds import check_share, lowest
from biddingmoves.moves import need_within, tops_within
from biddingmoves.needs import need, needs, winner
from biddingmoves.webs import check_arrow, check_place


def certify_need(web, place):
    """That the need is what it is."""
    check_place(web, place)
    return ("needs", web.rows, place, need(web, place)), needs(web)


def certify_share(web, place, share):
    """That the need is below this share, or above it, or just this."""
    words = {"first": "below", "second": "above", "open": "needs"}
    word = words[winner(web, place, share)]
    return (word, web.rows, place, share), needs(web)


def certify_within(web, place, moves):
    """That the need within so many moves is what it is."""
    needed = need_within(web, place, moves)
    tables = [[lowest(tops[spot], bottom) for spot in web.places] for tops, bottom in tops_within(web, 1, moves)]
    return ("within", web.rows, place, moves, needed), tuple([tuple(table) for table in tables])


def certify_bid(web, place, share, bid, to):
    """That this bid with this move is safe for first; None if it is not."""
    check_place(web, place)
    check_share(share)
    check_bid(bid, share)
    check_arrow(web.places, to)
    if to not in web.arrows(place) or not is_safe(web, place, share, "first", bid, to):
        return None
    return ("safe", web.rows, place, share, bid, to), needs(web)
