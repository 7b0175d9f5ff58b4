"""What is needed to win within so many moves, and within how many moves a share wins."""

from biddingmoves.kinds import check_moves, check_share, difference, is_below, lowest
from biddingmoves.limits import MOST_MOVES
from biddingmoves.needs import number_tops
from biddingmoves.webs import check_place


def tops_before(web, tops):
    """What is needed with one move more, over twice the bottom."""
    told = {}
    for place in web.places:
        leads = [tops[to] for to in web.arrows(place) or (place,)]
        told[place] = min(leads) + max(leads)
    return told


def tops_within(web, edge, moves):
    """For 0, 1, .., so many moves a pair: a dict, what is needed within them as integers over one bottom, and this.

    The edge, 1 or 0, is what is needed without a move at a place that is no end.
    """
    numbers, bottom = number_tops(web)
    tops = {place: numbers.get(place, edge * bottom) for place in web.places}
    told = [(tops, bottom)]
    for _ in range(moves):
        tops = tops_before(web, tops)
        bottom = 2 * bottom
        told.append((tops, bottom))
    return told


def need_within(web, place, moves):
    """The need of the place within so many moves."""
    check_place(web, place)
    check_moves(moves)
    tops, bottom = tops_within(web, 1, moves)[-1]
    return lowest(tops[place], bottom)


def hold_within(web, place, moves):
    """The hold of the place within so many moves."""
    check_place(web, place)
    check_moves(moves)
    tops, bottom = tops_within(web, 0, moves)[-1]
    return lowest(tops[place], bottom)


def gap_within(web, place, moves):
    """The need within so many moves less the hold within as many."""
    return difference(need_within(web, place, moves), hold_within(web, place, moves))


def moves_to_win(web, place, share):
    """The least number of moves within which first wins for certain, None if there is none up to 60."""
    check_place(web, place)
    check_share(share)
    for moves, (tops, bottom) in enumerate(tops_within(web, 1, MOST_MOVES)):
        if is_below((tops[place], bottom), share):
            return moves
    return None


def moves_to_hold(web, place, share):
    """The least number of moves within which second wins for certain, None if there is none up to 60."""
    check_place(web, place)
    check_share(share)
    for moves, (tops, bottom) in enumerate(tops_within(web, 0, MOST_MOVES)):
        if is_below(share, (tops[place], bottom)):
            return moves
    return None
