"""Plans: what first bids and where to move at each place, always; and what such a plan needs."""

from math import lcm

from biddingmoves.errors import InvalidPlan
from biddingmoves.kinds import check_moves, difference, is_one_of, is_row, is_share, lowest
from biddingmoves.limits import MOST_MOVES
from biddingmoves.moves import need_within
from biddingmoves.needs import best_moves, number_tops, step
from biddingmoves.webs import check_place, check_web


def starts(web):
    """The places that are no ends, ascending."""
    ends = web.ends
    return [place for place in web.places if place not in ends]


def is_triple(web, place, triple):
    """Whether a plan for the web may say this of the place."""
    if not is_row(triple) or len(triple) != 3:
        return False
    spot, bid, to = triple
    return is_one_of(spot, (place,)) and is_share(bid) and is_one_of(to, web.arrows(place))


def is_plan(web, plan):
    """Whether it is a plan for the web."""
    places = starts(web)
    if not is_row(plan) or len(plan) != len(places):
        return False
    return all([is_triple(web, place, triple) for place, triple in zip(places, plan)])


def check_plan(web, plan):
    """Raises the error of what is no plan for the web."""
    if not is_plan(web, plan):
        raise InvalidPlan(plan)


def even_plan(web):
    """The plan that bids the step at each place and means to move to the first one of the best moves for first."""
    check_web(web)
    return tuple([(place, step(web, place), best_moves(web, place, "first")[0]) for place in starts(web)])


def plan_tops_before(web, plan, tops, bottom):
    """What the plan needs with one move more, over the same bottom."""
    told = {end: tops[end] for end in web.ends}
    for place, (n, d), to in plan:
        bid = n * (bottom // d)
        most = max([tops[spot] for spot in web.arrows(place)])
        told[place] = min(max(bid + tops[to], most - bid), bottom)
    return told


def plan_tops(web, plan, moves):
    """The pair of a list and a bottom.

    The list has a dict for 0, 1, .., so many moves: what the plan needs within them, as integers over the bottom.
    """
    numbers, below = number_tops(web)
    bottom = below
    for triple in plan:
        bottom = lcm(bottom, triple[1][1])
    tops = {place: bottom for place in web.places}
    for end in numbers:
        tops[end] = numbers[end] * (bottom // below)
    told = [tops]
    for _ in range(moves):
        tops = plan_tops_before(web, plan, tops, bottom)
        told.append(tops)
    return told, bottom


def plan_need(web, place, plan, moves):
    """The need of the plan within so many moves."""
    check_place(web, place)
    check_plan(web, plan)
    check_moves(moves)
    told, bottom = plan_tops(web, plan, moves)
    return lowest(told[-1][place], bottom)


def plan_loss(web, place, plan, moves):
    """The need of the plan within so many moves less the need within as many."""
    return difference(plan_need(web, place, plan, moves), need_within(web, place, moves))


def at_all(web, place, plan):
    """The least number of moves within which the plan needs what it needs within 60 moves."""
    check_place(web, place)
    check_plan(web, plan)
    told, _ = plan_tops(web, plan, MOST_MOVES)
    needed = [tops[place] for tops in told]
    return needed.index(needed[-1])
