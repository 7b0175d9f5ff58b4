"""A small checker: it finds no needs itself, but looks at each number of a paper."""

from math import lcm

from biddingmoves.kinds import (
    difference, has_form, is_below, is_fraction, is_moves, is_one_of, is_part, is_row, is_share, lowest, total,
)
from biddingmoves.webs import are_rows, arrows_of

_FORMS = (("needs", 4), ("above", 4), ("below", 4), ("within", 5), ("safe", 6))


def is_checker_claim(claim):
    """Whether it is a claim for the checker, true or not."""
    if not has_form(claim, _FORMS) or not are_rows(claim[1]):
        return False
    places = [pair[0] for pair in claim[1]]
    if not is_one_of(claim[2], places):
        return False
    if claim[0] == "within":
        return is_moves(claim[3]) and is_fraction(claim[4])
    if claim[0] == "safe":
        return is_share(claim[3]) and is_share(claim[4]) and is_one_of(claim[5], places)
    return is_fraction(claim[3])


def is_table(rows, table):
    """Whether it is a tuple of fractions, one for each place."""
    return is_row(table) and len(table) == len(rows) and all([is_fraction(told) for told in table])


def numbers_of(rows, table):
    """For each place its number in the table."""
    return {pair[0]: told for pair, told in zip(rows, table)}


def middle(fractions):
    """Half of the sum of the least one and the greatest one of them."""
    bottom = 1
    for each in fractions:
        bottom = lcm(bottom, each[1])
    tops = [n * (bottom // d) for n, d in fractions]
    return lowest(min(tops) + max(tops), 2 * bottom)


def follows(rows, table, behind):
    """Whether what stands in the table where arrows lead makes the numbers behind it; ends have their own."""
    numbers = numbers_of(rows, table)
    for (_, what), told in zip(rows, behind):
        if told != (what if is_part(what) else middle([numbers[to] for to in what])):
            return False
    return True


def are_needs(rows, paper):
    """Whether the paper has the needs of all places: no other numbers follow from themselves."""
    return is_table(rows, paper) and follows(rows, paper, paper)


def are_needs_within(rows, moves, paper):
    """Whether the paper has the needs of all places within 0, 1, .., so many moves."""
    if not is_row(paper) or len(paper) != moves + 1 or not all([is_table(rows, table) for table in paper]):
        return False
    if paper[0] != tuple([what if is_part(what) else (1, 1) for _, what in rows]):
        return False
    return all([follows(rows, paper[k], paper[k + 1]) for k in range(moves)])


def keeps_the_win(claim, numbers):
    """Whether the bid of this claim with its move is safe for first, with these needs."""
    _, rows, place, share, bid, to = claim
    arrows = arrows_of(dict(rows)[place])
    # No need is below 0, so what first does not have is no safe bid.
    if to not in arrows or not is_below(numbers[to], difference(share, bid)):
        return False
    return all([is_below(numbers[spot], total(share, bid)) for spot in arrows])


def is_true(claim, numbers):
    """Whether the claim is true with these needs."""
    if claim[0] == "safe":
        return keeps_the_win(claim, numbers)
    told = numbers[claim[2]]
    if claim[0] == "above":
        return is_below(claim[3], told)
    if claim[0] == "below":
        return is_below(told, claim[3])
    return told == claim[3]


def accepts(claim, paper):
    """Whether it is a claim for the checker and the paper is one for it."""
    if not is_checker_claim(claim):
        return False
    rows = claim[1]
    if claim[0] == "within":
        return are_needs_within(rows, claim[3], paper) and numbers_of(rows, paper[-1])[claim[2]] == claim[4]
    return are_needs(rows, paper) and is_true(claim, numbers_of(rows, paper))
