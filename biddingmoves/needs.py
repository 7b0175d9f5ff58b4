"""The needs of all places of a web, exactly.

Where the stone goes when first moves is here the aim of first at a place, and
likewise for second. With given aims of both the needs solve one equation for
each place; the aims are made better until no aim can be.
"""

from math import lcm

from biddingmoves.errors import AtAnEnd
from biddingmoves.kinds import check_share, check_side, is_below, lowest
from biddingmoves.webs import check_place, check_web


def number_tops(web):
    """The pair of a dict, the numbers of the ends as integers over one bottom, and this bottom."""
    bottom = 1
    for end in web.ends:
        bottom = lcm(bottom, web.number(end)[1])
    tops = {}
    for end in web.ends:
        n, d = web.number(end)
        tops[end] = n * (bottom // d)
    return tops, bottom


def ways_out(arrows, ends):
    """For each place with arrows one of them, such that these lead, one behind another, to an end."""
    ways = {}
    led = list(ends)
    # Each round goes one arrow back from what was found, and no shortest way has more arrows than there are places.
    for _ in arrows:
        for place in arrows:
            near = [to for to in arrows[place] if to in led]
            if near != [] and place not in ways:
                ways[place] = near[0]
                led = led + [place]
    return ways


def equation(place, aims, spots, numbers):
    """How often the need of each of the spots is taken, and behind this the sum that it comes to.

    Twice the need of the place less the needs of both aims is 0; the numbers of ends are brought to the other side.
    """
    often = [(2 if spot == place else 0) - aims.count(spot) for spot in spots]
    return often + [sum([numbers[to] for to in aims if to in numbers])]


def cleared(row, pivot, at, last):
    """The row with 0 in the column `at`, by taking away the pivot's row so often."""
    return [(pivot[at] * here - row[at] * there) // last for here, there in zip(row, pivot)]


def solved(rows):
    """The pair of what solves these equations, a list of integers over one bottom, and this bottom.

    Without fractions, as by Bareiss: each division is one without a rest. No pivot is 0, and the bottom is from 1 on,
    since the aims lead from each place to an end: then all leading minors of such rows are greater than 0.
    """
    last = 1
    left = rows
    for at in range(len(rows)):
        pivot = left[at]
        left = [pivot if k == at else cleared(row, pivot, at, last) for k, row in enumerate(left)]
        last = pivot[at]
    return [row[-1] for row in left], last


def tops_with(firsts, seconds, numbers):
    """The pair of a dict, the needs of all places with these aims, and the bottom below them and the numbers."""
    spots = list(firsts)
    rows = [equation(place, [firsts[place], seconds[place]], spots, numbers) for place in spots]
    found, bottom = solved(rows)
    tops = {end: numbers[end] * bottom for end in numbers}
    for place, top in zip(spots, found):
        tops[place] = top
    return tops, bottom


def nearer(leads, aim, tops, sign):
    """The aim, or where an arrow leads with a greater need, the greatest one; for the sign -1 a less one, the least."""
    best = aim
    for to in leads:
        if sign * tops[to] > sign * tops[best]:
            best = to
    return best


def better(aims, arrows, tops, sign):
    """The aims with those changed for which another arrow leads to a greater need; for the sign -1 to a less one."""
    return {place: nearer(arrows[place], aims[place], tops, sign) for place in aims}


def need_tops(web):
    """The pair of a dict, the needs of all places as integers over one bottom, and this bottom."""
    numbers, below = number_tops(web)
    arrows = {place: web.arrows(place) for place in web.places if place not in numbers}
    # As second begins with ways out, the stone comes to an end wherever first aims; that stays so, since aims change
    # only where a need is really greater. The needs against the best aims of first rise with each change of seconds,
    # and fall with each change of firsts in between; so no aims of both come again, and there are not many.
    seconds = ways_out(arrows, web.ends)
    firsts = seconds
    while True:
        tops, bottom = tops_with(firsts, seconds, numbers)
        lower = better(firsts, arrows, tops, -1)
        higher = better(seconds, arrows, tops, 1)
        if lower != firsts:
            firsts = lower
        elif higher != seconds:
            seconds = higher
        else:
            return tops, bottom * below


def needs(web):
    """The needs of all places, in their order."""
    check_web(web)
    tops, bottom = need_tops(web)
    return tuple([lowest(tops[place], bottom) for place in web.places])


def need(web, place):
    """The need of the place."""
    check_place(web, place)
    tops, bottom = need_tops(web)
    return lowest(tops[place], bottom)


def step(web, place):
    """Half of the greatest need where arrows of the place lead less the least one; 0 for an end."""
    check_place(web, place)
    tops, bottom = need_tops(web)
    told = [tops[to] for to in web.arrows(place) or (place,)]
    return lowest(max(told) - min(told), 2 * bottom)


def best_moves(web, place, side):
    """Where arrows lead with the least need for first, the greatest one for second."""
    check_place(web, place)
    check_side(side)
    leads = web.arrows(place)
    if leads == ():
        raise AtAnEnd()
    tops, _ = need_tops(web)
    told = [tops[to] for to in leads]
    goal = min(told) if side == "first" else max(told)
    return tuple([to for to in leads if tops[to] == goal])


def winner(web, place, share):
    """Who wins for certain with this share of first, "open" if it is the need."""
    check_place(web, place)
    check_share(share)
    wanted = need(web, place)
    if share == wanted:
        return "open"
    return "first" if is_below(wanted, share) else "second"


def between(web, low, high):
    """The places whose need is greater than `low` and less than `high`."""
    check_web(web)
    check_share(low)
    check_share(high)
    tops, bottom = need_tops(web)
    told = [(place, (tops[place], bottom)) for place in web.places]
    return tuple([place for place, wanted in told if is_below(low, wanted) and is_below(wanted, high)])
