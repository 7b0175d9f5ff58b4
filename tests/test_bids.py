import inspect
import unittest
from fractions import Fraction

from biddingmoves import bids as module
from biddingmoves.bids import ahead, is_safe, safe_bids
from biddingmoves.errors import AtAnEnd, InvalidBid, InvalidMove, InvalidShare, InvalidSide, NotAWeb, UnknownPlace
from biddingmoves.needs import best_moves, need, needs, step
from biddingmoves.webs import Web
from cases import (
    FORK, LINE, TINY, WebCase, pair, place_argument, share_argument, shares_around, side_argument, some_webs,
    web_argument, wrong_fractions, wrong_places, wrong_sides, wrong_webs,
)

SIDES = ("first", "second")
WRONG_MOVES_AT_A = [*wrong_places(LINE), "a", "y"]


def keeps_the_win(web, table, place, m, side, bid, to):
    """By the words of the document: the share behind the move is on the right side of the need for whatever is bid."""
    sign = 1 if side == "first" else -1
    rest = 1 - m if side == "first" else m
    others = {other for other in (Fraction(0), rest, rest / 2, bid, bid + TINY, bid - TINY) if 0 <= other <= rest}
    behind = []
    for other in others:
        if bid >= other:
            behind.append((m - sign * bid, to))
        if other >= bid:
            behind += [(m + sign * other, goal) for goal in web.arrows(place)]
    return all(sign * (share - table[goal]) > 0 for share, goal in behind)


def told_needs(web):
    return {place: Fraction(*told) for place, told in zip(web.places, needs(web))}


def cases(webs):
    """Each web with its needs, each of its places that is no end, and shares around the need."""
    for web in webs:
        table = told_needs(web)
        for place in web.places:
            if place not in web.ends:
                for share in shares_around([table[place]]):
                    yield web, table, place, share


class TestExamples(WebCase):
    def test_examples_of_the_document(self):
        self.assertEqual(safe_bids(LINE, "a", (2, 5), "first", "x"), ((4, 15), (2, 5)))
        self.assertIsNone(safe_bids(LINE, "a", (1, 3), "first", "x"))
        self.assertEqual(safe_bids(LINE, "a", (1, 10), "second", "b"), ((1, 10), (17, 30)))
        self.assertIs(is_safe(LINE, "a", (2, 5), "first", (1, 3), "x"), True)
        self.assertIs(is_safe(LINE, "a", (2, 5), "first", (1, 4), "x"), False)
        self.assertEqual(ahead(LINE, "a", (2, 5)), (1, 15))

    def test_interface(self):
        wanted = {
            "safe_bids": "web place share side to", "is_safe": "web place share side bid to",
            "ahead": "web place share",
        }
        for name, parameters in wanted.items():
            call = getattr(module, name)
            self.assertEqual(call.__module__, "biddingmoves.bids")
            self.assertEqual(list(inspect.signature(call).parameters), parameters.split())


class TestSafeBids(WebCase):
    def wanted(self, web, table, place, m, side, to):
        leads = [table[goal] for goal in web.arrows(place)]
        if side == "first":
            low, high = max(leads) - m, m - table[to]
        else:
            low, high = m - min(leads), table[to] - m
        return (pair(low), pair(high)) if low < high else None

    def test_each_arrow_and_both_sides(self):
        none = 0
        for web, table, place, share in cases(some_webs()):
            m = Fraction(*share)
            for side in SIDES:
                for to in web.arrows(place):
                    told = safe_bids(web, place, share, side, to)
                    self.assertEqual(told, self.wanted(web, table, place, m, side, to))
                    none += told is None
                    if told is not None:
                        self.assertIs(type(told), tuple)
                        self.check_fraction(told[0])
                        self.check_fraction(told[1])
                        # Who can bid safely is on the right side of the need.
                        self.assertGreater((m - table[place]) * (1 if side == "first" else -1), 0)
        self.assertGreater(none, 500)

    def test_none_just_if_no_bid_is_safe(self):
        for web, table, place, share in cases(some_webs()[::4]):
            m = Fraction(*share)
            for side in SIDES:
                purse = m if side == "first" else 1 - m
                bids = [at * purse / 4 for at in range(5)] + [Fraction(*step(web, place))]
                for to in web.arrows(place):
                    told = safe_bids(web, place, share, side, to)
                    if told is None:
                        safe = [bid for bid in bids if keeps_the_win(web, table, place, m, side, bid, to)]
                        self.assertEqual(safe, [])
                    else:
                        low, high = max(Fraction(*told[0]), -TINY), min(Fraction(*told[1]), purse + TINY)
                        middle = max((low + high) / 2, Fraction(0))
                        self.assertTrue(keeps_the_win(web, table, place, m, side, middle, to))

    def test_shares_far_beyond_the_need(self):
        self.assertEqual(safe_bids(LINE, "a", (1, 1), "first", "x"), ((-1, 3), (1, 1)))
        self.assertEqual(safe_bids(LINE, "a", (1, 1), "first", "b"), ((-1, 3), (1, 3)))
        self.assertEqual(safe_bids(LINE, "b", (0, 1), "second", "y"), ((-1, 3), (1, 1)))
        self.assertEqual(safe_bids(LINE, "b", (0, 1), "second", "a"), ((-1, 3), (1, 3)))
        self.assertIsNone(safe_bids(LINE, "a", (1, 1), "second", "x"))
        self.assertIsNone(safe_bids(LINE, "b", (0, 1), "first", "y"))
        self.assertIsNone(safe_bids(LINE, "a", (2, 5), "first", "b"))
        self.assertIsNone(safe_bids(LINE, "a", (1, 2), "first", "b"))
        self.assertIsNone(safe_bids(LINE, "a", (2, 3), "first", "b"))
        self.assertEqual(safe_bids(LINE, "a", pair(Fraction(2, 3) + TINY), "first", "b"), (pair(-TINY), pair(TINY)))

    def test_by_place_and_by_name(self):
        for web, _, place, share in cases([LINE, FORK]):
            for side in SIDES:
                for to in web.arrows(place):
                    self.check_same(safe_bids, web, place, share, side, to)

    def test_wrong_arguments(self):
        to = ("to", "x", InvalidMove, WRONG_MOVES_AT_A)
        for side in SIDES:
            known = (web_argument(LINE), place_argument(LINE, "a"), share_argument((2, 5)), side_argument(side))
            self.check_arguments(safe_bids, *known, to)

    def test_at_an_end_ahead_of_the_look_at_to(self):
        for end in "xy":
            for to in [*WRONG_MOVES_AT_A, "a", "b", "x", "y"]:
                for side in SIDES:
                    with self.assertRaises(AtAnEnd):
                        safe_bids(LINE, end, (2, 5), side, to)
        for wrong in wrong_sides():
            self.check_error(InvalidSide, wrong, safe_bids, LINE, "x", (2, 5), wrong, "q")
        for wrong in wrong_fractions():
            self.check_error(InvalidShare, wrong, safe_bids, LINE, "x", wrong, "third", "q")


class TestIsSafe(WebCase):
    def test_bids_at_both_ends_of_what_is_safe(self):
        found = {True: 0, False: 0}
        for web, table, place, share in cases(some_webs()[::6]):
            m = Fraction(*share)
            for side in SIDES:
                purse = m if side == "first" else 1 - m
                for to in web.arrows(place):
                    pairs = safe_bids(web, place, share, side, to) or ((0, 1), (1, 2))
                    bids = {Fraction(*each) + more for each in pairs for more in (-TINY, 0, TINY)}
                    bids |= {Fraction(0), TINY, purse, purse - TINY, purse / 2, Fraction(*step(web, place))}
                    for bid in sorted(bid for bid in bids if 0 <= bid <= purse):
                        told = is_safe(web, place, share, side, pair(bid), to)
                        self.assertIs(told, keeps_the_win(web, table, place, m, side, bid, to))
                        found[told] += 1
        self.assertGreater(min(found.values()), 500)

    def test_ends_of_an_example(self):
        for bid, safe in (
            (Fraction(4, 15), False), (Fraction(4, 15) + TINY, True), (Fraction(2, 5) - TINY, True),
            (Fraction(2, 5), False), (Fraction(0), False),
        ):
            self.assertIs(is_safe(LINE, "a", (2, 5), "first", pair(bid), "x"), safe)
        for bid, safe in (
            (Fraction(1, 10), False), (Fraction(1, 10) + TINY, True), (Fraction(17, 30) - TINY, True),
            (Fraction(17, 30), False), (Fraction(9, 10), False), (Fraction(0), False),
        ):
            self.assertIs(is_safe(LINE, "a", (1, 10), "second", pair(bid), "b"), safe)

    def test_nothing_and_the_whole_purse(self):
        self.assertIs(is_safe(LINE, "a", (1, 1), "first", (0, 1), "x"), True)
        self.assertIs(is_safe(LINE, "a", (1, 1), "first", (1, 1), "x"), False)
        self.assertIs(is_safe(LINE, "a", (1, 1), "first", pair(1 - TINY), "x"), True)
        self.assertIs(is_safe(LINE, "b", (0, 1), "second", (0, 1), "y"), True)
        self.assertIs(is_safe(LINE, "b", (0, 1), "second", (1, 1), "y"), False)
        self.assertIs(is_safe(LINE, "a", (1, 1), "second", (0, 1), "b"), False)

    def test_the_step_with_a_best_move_is_safe(self):
        for web, table, place, share in cases(some_webs()):
            side = "first" if Fraction(*share) > table[place] else "second"
            if Fraction(*share) != table[place]:
                for to in best_moves(web, place, side):
                    self.assertIs(is_safe(web, place, share, side, step(web, place), to), True)

    def test_by_place_and_by_name(self):
        for web, _, place, share in cases([LINE, FORK]):
            for side in SIDES:
                for to in web.arrows(place):
                    self.check_same(is_safe, web, place, share, side, (0, 1), to)

    def test_bids_beyond_the_purse(self):
        for share, side, purse in (((2, 5), "first", (2, 5)), ((2, 5), "second", (3, 5)), ((0, 1), "first", (0, 1)),
                                   ((1, 1), "second", (0, 1)), ((1, 1), "first", (1, 1)), ((0, 1), "second", (1, 1))):
            more = pair(Fraction(*purse) + TINY)
            self.check_error(InvalidBid, more, is_safe, LINE, "a", share, side, more, "x")
            self.assertIn(is_safe(LINE, "a", share, side, purse, "x"), (True, False))
            self.assertIn(is_safe(LINE, "a", share, side, (0, 1), "x"), (True, False))
        for share, side, bid in (((2, 5), "first", (1, 2)), ((2, 5), "second", (2, 3)), ((2, 5), "second", (1, 1))):
            self.check_error(InvalidBid, bid, is_safe, LINE, "a", share, side, bid, "q")

    def test_wrong_arguments(self):
        bid = ("bid", (1, 3), InvalidBid, [*wrong_fractions(), (2, 3), (1, 1)])
        to = ("to", "x", InvalidMove, WRONG_MOVES_AT_A)
        for side in SIDES:
            known = (web_argument(LINE), place_argument(LINE, "a"), share_argument((2, 5)), side_argument(side))
            self.check_arguments(is_safe, *known, bid, to)

    def test_at_an_end_behind_the_bid_and_ahead_of_to(self):
        for end in "xy":
            for to in [*WRONG_MOVES_AT_A, "a", "b", "x", "y"]:
                for side in SIDES:
                    with self.assertRaises(AtAnEnd):
                        is_safe(LINE, end, (2, 5), side, (1, 3), to)
            for wrong in [*wrong_fractions(), (2, 3), (1, 1)]:
                self.check_error(InvalidBid, wrong, is_safe, LINE, end, (2, 5), "first", wrong, "q")
            for wrong in wrong_sides():
                self.check_error(InvalidSide, wrong, is_safe, LINE, end, (2, 5), wrong, (9, 7), "q")
            for wrong in wrong_webs():
                self.check_error(NotAWeb, wrong, is_safe, wrong, end, (9, 5), "third", (9, 7), "q")
        self.check_error(UnknownPlace, "q", is_safe, LINE, "q", (9, 5), "third", (9, 7), "q")


class TestAhead(WebCase):
    def test_the_share_less_the_need(self):
        for web in some_webs():
            for place in web.places:
                wanted = Fraction(*need(web, place))
                for share in shares_around([wanted]):
                    told = ahead(web, place, share)
                    self.check_fraction(told)
                    self.assertEqual(told, pair(Fraction(*share) - wanted))

    def test_signs(self):
        self.assertEqual(ahead(LINE, "a", (1, 3)), (0, 1))
        self.assertEqual(ahead(LINE, "a", (1, 4)), (-1, 12))
        self.assertEqual(ahead(LINE, "y", (0, 1)), (-1, 1))
        self.assertEqual(ahead(LINE, "x", (1, 1)), (1, 1))
        self.assertEqual(ahead(Web.read("m = 3/7"), "m", (3, 7)), (0, 1))
        self.assertEqual(self.check_same(ahead, LINE, "b", (1, 2)), (-1, 6))

    def test_wrong_arguments(self):
        for place in "ax":
            self.check_arguments(ahead, web_argument(LINE), place_argument(LINE, place), share_argument((1, 2)))


if __name__ == "__main__":
    unittest.main()
