import inspect
import random
import unittest
from fractions import Fraction

from biddingmoves import plans as module
from biddingmoves.errors import InvalidNumber, InvalidPlan
from biddingmoves.moves import need_within
from biddingmoves.needs import best_moves, need, step
from biddingmoves.plans import at_all, even_plan, plan_loss, plan_need
from biddingmoves.webs import Web
from cases import (
    FORK, HALF, LINE, TINY, WebCase, line_of, moves_argument, pair, place_argument, some_webs, web_argument,
    wrong_fractions, wrong_moves, wrong_places,
)
from samples import odd_values

HALVES = (("a", (1, 2), "x"), ("b", (1, 2), "a"))
ALONE = Web.read("m = 3/7")


def tables(web, plan):
    """Written apart from the program: what the plan needs within 0, 1, .., 60 moves, a dict for each."""
    told = [{place: Fraction(*web.number(place)) if place in web.ends else Fraction(1) for place in web.places}]
    for _ in range(60):
        last = told[-1]
        rows = dict(last)
        for place, bid, to in plan:
            paid = Fraction(*bid) + last[to]
            got = max(last[spot] for spot in web.arrows(place)) - Fraction(*bid)
            rows[place] = min(Fraction(1), max(paid, got))
        told.append(rows)
    return told


def wins_by_plan(web, plan, place, share, moves):
    """Whether first wins within so many moves by the plan, whatever second bids and does, move by move.

    Second can let first pay, or bid just as much and pay; to bid more only gives first more.
    """
    if place in web.ends:
        return share > Fraction(*web.number(place))
    told = {spot: (Fraction(*bid), to) for spot, bid, to in plan}
    bid, to = told[place]
    if moves == 0 or share < bid or not wins_by_plan(web, plan, to, share - bid, moves - 1):
        return False
    if bid > 1 - share:
        return True
    return all(wins_by_plan(web, plan, spot, share + bid, moves - 1) for spot in web.arrows(place))


def random_plan(web, chance):
    rows = []
    for place in web.places:
        if place not in web.ends:
            bid = chance.choice([
                (0, 1), (1, 1), (1, 2), step(web, place), step(web, place), pair(TINY), pair(1 - TINY),
                pair(Fraction(chance.randint(0, 12), 12)), pair(Fraction(chance.randint(0, 10 ** 20), 10 ** 20)),
            ])
            rows.append((place, bid, chance.choice(web.arrows(place))))
    return tuple(rows)


def plans_for(web, chance):
    return [even_plan(web)] + [random_plan(web, chance) for _ in range(3)]


def wrong_plans():
    """What is no plan for the web LINE."""
    first, second = HALVES
    more = [
        (), (first,), (second,), (second, first), (first, first), (first, second, second), (first, first, second),
        (first, second, ("x", (0, 1), "x")), (first, second, ("x", (0, 1), "a")), (("x", (1, 2), "a"), first, second),
        (("x", (1, 2), "x"), second), (("q", (1, 2), "x"), second), (first, ("c", (1, 2), "a")), (second, second),
        (first, second, None), (first, None), (None, None), (first, second, ()), (first, ()), first, second,
        [first, second], [list(first), second], (list(first), second), (first, list(second)), [], {}, HALVES + HALVES,
        (("a", (1, 2)), second), (("a", (1, 2), "x", "x"), second), (("a", "x", (1, 2)), second),
        (("a", (1, 2), "y"), second), (("a", (1, 2), "a"), second), (first, ("b", (1, 2), "x")),
        (first, ("b", (1, 2), "b")), (first, ("b", (1, 2), "q")), (first, ("b", (1, 2), None)),
        (("a", (1, 2), ("x",)), second), (("a", (1, 2), ["x"]), second), (("ab", (1, 2), "x"), second),
        (("a", (1, 2), "bx"), second), (("a", (1, 2), ""), second), (("", (1, 2), "x"), second),
        (("a", (1, 2), b"x"), second), ((True, (1, 2), "x"), second), HALVES[::-1], "ab", (("a", (1, 2), "x"), "b"),
    ]
    more += [(("a", bid, "x"), second) for bid in wrong_fractions()]
    more += [(first, ("b", (1, 2), to)) for to in wrong_places(LINE)]
    more += [((place, (1, 2), "x"), second) for place in wrong_places(LINE)]
    return odd_values() + more


def plan_argument(plan):
    return "plan", plan, InvalidPlan, wrong_plans()


class TestExamples(WebCase):
    def test_examples_of_the_document(self):
        self.assertEqual(even_plan(LINE), (("a", (1, 3), "x"), ("b", (1, 3), "a")))
        self.assertEqual(plan_need(LINE, "a", HALVES, 0), (1, 1))
        self.assertEqual(plan_need(LINE, "a", HALVES, 1), (1, 2))
        self.assertEqual(plan_need(LINE, "a", HALVES, 9), (1, 2))
        self.assertEqual(plan_need(LINE, "a", even_plan(LINE), 9), (2, 3))
        self.assertEqual(plan_loss(LINE, "a", HALVES, 3), (1, 8))
        self.assertEqual(at_all(LINE, "a", HALVES), 1)

    def test_interface(self):
        wanted = {
            "even_plan": "web", "plan_need": "web place plan moves", "plan_loss": "web place plan moves",
            "at_all": "web place plan",
        }
        for name, parameters in wanted.items():
            call = getattr(module, name)
            self.assertEqual(call.__module__, "biddingmoves.plans")
            self.assertEqual(list(inspect.signature(call).parameters), parameters.split())


class TestEvenPlan(WebCase):
    def test_steps_and_first_best_moves(self):
        for web in some_webs():
            told = self.check_same(even_plan, web)
            self.assertIs(type(told), tuple)
            wanted = [
                (place, step(web, place), min(best_moves(web, place, "first")))
                for place in web.places if place not in web.ends
            ]
            self.assertEqual(list(told), wanted)
            self.assertTrue(all(type(triple) is tuple for triple in told))
            # What is told is a plan.
            self.check_fraction(plan_need(web, web.places[0], told, 60))

    def test_several_best_moves(self):
        web = Web.read("a: b w x y z\nb: a z\nw = 1/3\nx = 0/1\ny = 1/1\nz = 0/1")
        self.assertEqual(even_plan(web), (("a", (1, 2), "x"), ("b", (1, 4), "z")))
        same = Web.read("a: b y z\nb: a y z\ny = 1/3\nz = 1/3")
        self.assertEqual(even_plan(same), (("a", (0, 1), "b"), ("b", (0, 1), "a")))
        back = Web.read("a: a z\nz = 2/7")
        self.assertEqual(even_plan(back), (("a", (0, 1), "a"),))

    def test_no_place_but_ends(self):
        self.assertEqual(even_plan(ALONE), ())
        self.assertEqual(even_plan(Web.read("a = 0/1\nb = 1/1")), ())

    def test_wrong_arguments(self):
        self.check_arguments(even_plan, web_argument(LINE))


class TestPlanNeed(WebCase):
    def test_by_sums(self):
        chance = random.Random(41)
        capped = 0
        for web in some_webs():
            for plan in plans_for(web, chance):
                told = tables(web, plan)
                for place in web.places:
                    for moves in (0, 1, 2, 7, 60):
                        needed = plan_need(web, place, plan, moves)
                        self.check_fraction(needed)
                        self.assertEqual(needed, pair(told[moves][place]))
                        capped += moves > 0 and needed == (1, 1)
        self.assertGreater(capped, 100)

    def test_by_moves(self):
        chance = random.Random(42)
        found = {True: 0, False: 0}
        for web in [LINE, FORK, line_of(3), Web.read("a: a b\nb: a z\nz = 1/4"), *some_webs()[18:26]]:
            for plan in plans_for(web, chance):
                for place in web.places:
                    for moves in (0, 1, 3):
                        needed = Fraction(*plan_need(web, place, plan, moves))
                        for share in {needed - TINY, needed + TINY, needed / 2, (needed + 1) / 2, HALF} - {needed}:
                            if 0 <= share <= 1:
                                told = wins_by_plan(web, plan, place, share, moves)
                                self.assertIs(told, share > needed)
                                found[told] += 1
        self.assertGreater(min(found.values()), 300)

    def test_bids_of_nothing_and_all(self):
        free = (("a", (0, 1), "x"), ("b", (0, 1), "a"))
        self.assertEqual([plan_need(LINE, "a", free, moves) for moves in (0, 1, 2, 60)], [(1, 1)] * 4)
        dear = (("a", (1, 1), "x"), ("b", (1, 1), "a"))
        self.assertEqual([plan_need(LINE, "a", dear, moves) for moves in (0, 1, 2, 60)], [(1, 1)] * 4)
        short = Web.read("a: b c\nb = 0/1\nc = 1/3")
        self.assertEqual(plan_need(short, "a", (("a", (0, 1), "b"),), 1), (1, 3))
        self.assertEqual(plan_need(short, "a", (("a", (1, 6), "b"),), 1), (1, 6))
        self.assertEqual(plan_need(short, "a", (("a", (1, 7), "b"),), 1), (4, 21))
        self.assertEqual(plan_need(short, "a", (("a", (1, 1), "b"),), 1), (1, 1))
        self.assertEqual(plan_need(short, "a", (("a", (1, 2), "c"),), 60), (5, 6))
        self.assertEqual(plan_need(short, "a", (("a", (5, 6), "c"),), 60), (1, 1))

    def test_ends(self):
        for moves in (0, 1, 60):
            self.assertEqual(plan_need(LINE, "x", HALVES, moves), (0, 1))
            self.assertEqual(plan_need(LINE, "y", HALVES, moves), (1, 1))
            self.assertEqual(plan_need(ALONE, "m", (), moves), (3, 7))

    def test_bottoms_of_bids_and_ends_that_have_nothing_in_common(self):
        web = Web.read("a: b c\nb = 1/999999999989\nc = 1/2")
        bid = (1, 10 ** 39 + 7)
        wanted = pair(max(Fraction(1, 999999999989) + Fraction(*bid), HALF - Fraction(*bid)))
        self.assertEqual(plan_need(web, "a", (("a", bid, "b"),), 1), wanted)

    def test_by_place_and_by_name(self):
        for place in "abxy":
            for moves in (0, 1, 60):
                self.check_same(plan_need, LINE, place, HALVES, moves)
                self.check_same(plan_loss, LINE, place, HALVES, moves)
            self.check_same(at_all, LINE, place, HALVES)

    def test_wrong_arguments(self):
        known = (web_argument(LINE), place_argument(LINE, "a"), plan_argument(HALVES))
        self.check_arguments(plan_need, *known, moves_argument(60))
        self.check_arguments(plan_loss, *known, moves_argument(0))
        self.check_arguments(at_all, *known)
        known = (web_argument(LINE), place_argument(LINE, "x"), plan_argument(HALVES))
        self.check_arguments(plan_need, *known, moves_argument(1))
        self.check_arguments(at_all, *known)

    def test_plans_of_other_webs(self):
        for wrong in [even_plan(FORK), HALVES, (("m", (0, 1), "m"),), None, []]:
            self.check_error(InvalidPlan, wrong, plan_need, ALONE, "m", wrong, 1)
        of_fork, of_line = even_plan(FORK), even_plan(LINE)
        self.check_error(InvalidPlan, of_fork, at_all, LINE, "a", of_fork)
        self.check_error(InvalidPlan, of_line, plan_loss, FORK, "a", of_line, 1)
        for moves in wrong_moves():
            self.check_error(InvalidNumber, moves, plan_need, ALONE, "m", (), moves)


class TestPlanLoss(WebCase):
    def test_the_need_of_the_plan_less_the_need(self):
        chance = random.Random(43)
        nothing = 0
        for web in some_webs():
            for plan in plans_for(web, chance):
                for place in web.places:
                    for moves in (0, 1, 5, 60):
                        told = plan_loss(web, place, plan, moves)
                        self.check_fraction(told)
                        less = Fraction(*need_within(web, place, moves))
                        self.assertEqual(told, pair(Fraction(*plan_need(web, place, plan, moves)) - less))
                        self.assertGreaterEqual(told[0], 0)
                        nothing += told == (0, 1) and moves > 0 and place not in web.ends
        self.assertGreater(nothing, 100)

    def test_nothing_lost(self):
        tree = Web.read("a: b c\nb: d e\nc: e f\nd = 0/1\ne = 1/2\nf = 1/1")
        for moves in (0, 2, 3, 60):
            for place in tree.places:
                self.assertEqual(plan_loss(tree, place, even_plan(tree), moves), (0, 1))
        for place in "abxy":
            self.assertEqual(plan_loss(LINE, place, HALVES, 0), (0, 1))
        self.assertEqual(plan_loss(LINE, "a", HALVES, 1), (0, 1))
        self.assertEqual(plan_loss(LINE, "a", HALVES, 2), (0, 1))
        self.assertEqual(plan_loss(tree, "a", (("a", (1, 4), "c"), *even_plan(tree)[1:]), 2), (1, 2))


class TestAtAll(WebCase):
    def test_the_least_number_of_moves(self):
        chance = random.Random(44)
        found = set()
        for web in some_webs():
            for plan in plans_for(web, chance):
                told = tables(web, plan)
                for place in web.places:
                    wanted = min(moves for moves in range(61) if told[moves][place] == told[60][place])
                    moves = at_all(web, place, plan)
                    self.assertIs(type(moves), int)
                    self.assertEqual(moves, wanted)
                    found.add(moves)
        self.assertGreaterEqual(len(found), 5)

    def test_ends_at_once_late_and_60(self):
        for end in "xy":
            self.assertEqual(at_all(LINE, end, HALVES), 0)
        self.assertEqual(at_all(ALONE, "m", ()), 0)
        self.assertEqual(at_all(LINE, "b", HALVES), 0)
        # Second can hold the stone back, but pays 1 / many for each move: so all is needed at first, then less and less.
        web = Web.read("a: a z\nz = 0/1")
        for many, wanted in ((1, 0), (2, 1), (3, 2), (10, 9), (60, 59), (61, 60), (62, 60), (1000, 60)):
            self.assertEqual(at_all(web, "a", (("a", (1, many), "z"),)), wanted)
        self.assertEqual(plan_need(web, "a", (("a", (1, 61), "z"),), 60), (1, 61))
        self.assertEqual(plan_need(web, "a", (("a", (1, 62), "z"),), 60), (1, 31))
        self.assertEqual(need(web, "a"), (0, 1))


if __name__ == "__main__":
    unittest.main()
