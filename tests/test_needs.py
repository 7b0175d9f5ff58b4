import inspect
import unittest
from fractions import Fraction

from biddingmoves import needs as module
from biddingmoves.errors import AtAnEnd, InvalidShare
from biddingmoves.needs import best_moves, between, need, needs, step, winner
from biddingmoves.webs import Web
from cases import (
    FORK, HALF, LINE, TINY, WebCase, line_of, pair, place_argument, random_big_webs, share_argument, shares_around,
    side_argument, some_webs, web_argument, wrong_fractions, wrong_webs,
)


def told_needs(web):
    return {place: Fraction(*told) for place, told in zip(web.places, needs(web))}


class TestExamples(WebCase):
    def test_examples_of_the_document(self):
        self.assertEqual(needs(LINE), ((1, 3), (2, 3), (0, 1), (1, 1)))
        self.assertEqual(step(LINE, "a"), (1, 3))
        self.assertEqual(best_moves(LINE, "a", "first"), ("x",))
        self.assertEqual(best_moves(LINE, "b", "first"), ("a",))
        self.assertEqual(winner(LINE, "a", (2, 5)), "first")
        self.assertEqual(winner(LINE, "a", (1, 3)), "open")
        self.assertEqual(needs(FORK), ((2, 3), (1, 2), (5, 6), (0, 1), (1, 1)))
        self.assertEqual(between(FORK, (1, 2), (1, 1)), ("a", "c"))

    def test_interface(self):
        wanted = {
            "need": "web place", "needs": "web", "step": "web place", "best_moves": "web place side",
            "winner": "web place share", "between": "web low high",
        }
        for name, parameters in wanted.items():
            call = getattr(module, name)
            self.assertEqual(call.__module__, "biddingmoves.needs")
            self.assertEqual(list(inspect.signature(call).parameters), parameters.split())


class TestNeeds(WebCase):
    def check_needs(self, web):
        """The told numbers are those of the document, of which there is just one table."""
        told = self.check_same(needs, web)
        self.assertIs(type(told), tuple)
        self.assertEqual(len(told), len(web.places))
        for each in told:
            self.check_fraction(each)
        table = {place: Fraction(*each) for place, each in zip(web.places, told)}
        for place, what in web.rows:
            if place in web.ends:
                self.assertEqual(told[web.places.index(place)], what)
            else:
                leads = [table[to] for to in what]
                self.assertEqual(table[place], (min(leads) + max(leads)) / 2)
        for place, each in zip(web.places, told):
            self.assertEqual(need(web, place), each)

    def test_webs_of_all_forms(self):
        for web in some_webs():
            self.check_needs(web)

    def test_many_webs(self):
        for web in random_big_webs(21, 600):
            self.check_needs(web)

    def test_ends_alone(self):
        self.assertEqual(needs(Web.read("m = 3/7")), ((3, 7),))
        self.assertEqual(needs(Web.read("a = 1/1\nb = 0/1\nc = 1/1000000000000")), ((1, 1), (0, 1), (1, 10 ** 12)))

    def test_lines(self):
        for many in range(1, 9):
            web = line_of(many)
            wanted = tuple(pair(Fraction(at, many + 1)) for at in range(many + 2))
            self.assertEqual(needs(web), wanted)

    def test_rings_with_one_way_out(self):
        for many in range(1, 10):
            places = "abcdefghi"[:many]
            for out in places:
                rows = [(place, (places[(at + 1) % many],)) for at, place in enumerate(places)]
                rows = [(place, tuple(sorted({*leads, "z"})) if place == out else leads) for place, leads in rows]
                self.assertEqual(needs(Web(tuple(rows) + (("z", (3, 8)),))), ((3, 8),) * (many + 1))

    def test_webs_without_rounds(self):
        self.assertEqual(needs(Web.read("a: b c\nb = 1/5\nc = 4/5")), ((1, 2), (1, 5), (4, 5)))
        tree = Web.read("a: b c\nb: d e\nc: e f\nd = 0/1\ne = 1/2\nf = 1/1")
        self.assertEqual(needs(tree), ((1, 2), (1, 4), (3, 4), (0, 1), (1, 2), (1, 1)))
        between_both = Web.read("a: x y z\nx = 0/1\ny = 1/9\nz = 1/3")
        self.assertEqual(need(between_both, "a"), (1, 6))

    def test_arrows_to_the_place_itself(self):
        self.assertEqual(need(Web.read("a: a z\nz = 2/7"), "a"), (2, 7))
        self.assertEqual(needs(Web.read("a: a y z\ny = 1/5\nz = 4/5"))[0], (1, 2))
        self.assertEqual(needs(Web.read("a: a b z\nb: a b y\ny = 1/1\nz = 0/1"))[:2], ((1, 3), (2, 3)))
        self.assertEqual(needs(Web.read("a: a b\nb: b z\nz = 1/1")), ((1, 1), (1, 1), (1, 1)))

    def test_ten_places_with_arrows_to_all(self):
        every = tuple("abcdefghij")
        web = Web(tuple((place, every) for place in "abcdefghi") + (("j", (1, 10 ** 12)),))
        self.assertEqual(needs(web), ((1, 10 ** 12),) * 10)
        ends = (("i", (1, 10 ** 12)), ("j", (10 ** 12 - 1, 10 ** 12)))
        web = Web(tuple((place, every) for place in "abcdefgh") + ends)
        self.assertEqual(needs(web), ((1, 2),) * 8 + (ends[0][1], ends[1][1]))

    def test_bottoms_that_have_nothing_in_common(self):
        low, high = Fraction(1, 10 ** 12), Fraction(10 ** 12 - 2, 10 ** 12 - 1)
        web = Web((("a", ("b", "c")), ("b", pair(low)), ("c", pair(high))))
        self.assertEqual(need(web, "a"), pair((low + high) / 2))
        self.assertGreater(need(web, "a")[1], 10 ** 23)

    def test_turned_webs(self):
        for web in some_webs():
            turned = told_needs(web.turned())
            for place, told in told_needs(web).items():
                self.assertEqual(turned[place], 1 - told)

    def test_behind_other_questions(self):
        webs = some_webs()
        first = [needs(web) for web in webs]
        for web in reversed(webs):
            for place in web.places:
                step(web, place)
                winner(web, place, (1, 2))
        self.assertEqual([needs(Web(web.rows)) for web in webs], first)

    def test_wrong_arguments(self):
        self.check_arguments(needs, web_argument(LINE))
        self.check_arguments(need, web_argument(LINE), place_argument(LINE, "a"))


class TestStep(WebCase):
    def test_half_of_the_difference(self):
        for web in some_webs():
            table = told_needs(web)
            for place, what in web.rows:
                told = self.check_same(step, web, place)
                self.check_fraction(told)
                if place in web.ends:
                    self.assertEqual(told, (0, 1))
                else:
                    leads = [table[to] for to in what]
                    self.assertEqual(told, pair((max(leads) - min(leads)) / 2))

    def test_wrong_arguments(self):
        self.check_arguments(step, web_argument(LINE), place_argument(LINE, "a"))


class TestBestMoves(WebCase):
    def test_all_places_with_the_least_and_the_greatest_need(self):
        several = 0
        for web in some_webs():
            table = told_needs(web)
            for place in web.places:
                for side, pick in (("first", min), ("second", max)):
                    if place in web.ends:
                        self.assertRaises(AtAnEnd, best_moves, web, place, side)
                        continue
                    told = self.check_same(best_moves, web, place, side)
                    goal = pick(table[to] for to in web.arrows(place))
                    self.assertEqual(told, tuple(to for to in web.arrows(place) if table[to] == goal))
                    several += len(told) > 1
        self.assertGreater(several, 20)

    def test_several_of_the_same_need(self):
        web = Web.read("a: b w x y z\nb: a z\nw = 1/3\nx = 0/1\ny = 1/1\nz = 0/1")
        self.assertEqual(best_moves(web, "a", "first"), ("x", "z"))
        self.assertEqual(best_moves(web, "a", "second"), ("y",))
        same = Web.read("a: b y z\nb: a y z\ny = 1/3\nz = 1/3")
        self.assertEqual(best_moves(same, "a", "first"), ("b", "y", "z"))
        self.assertEqual(best_moves(same, "b", "second"), ("a", "y", "z"))

    def test_wrong_arguments(self):
        right = (web_argument(LINE), side_argument("second"))
        self.check_arguments(best_moves, right[0], place_argument(LINE, "a"), right[1])
        self.check_arguments(best_moves, right[0], place_argument(LINE, "x"), right[1], last=AtAnEnd)


class TestWinner(WebCase):
    def test_shares_below_at_and_above_the_need(self):
        for web in some_webs()[:30]:
            for place, wanted in told_needs(web).items():
                for share in shares_around([wanted]):
                    m = Fraction(*share)
                    told = self.check_same(winner, web, place, share)
                    self.assertEqual(told, "first" if m > wanted else "second" if m < wanted else "open")

    def test_at_ends(self):
        self.assertEqual(winner(LINE, "x", (0, 1)), "open")
        self.assertEqual(winner(LINE, "x", (1, 10 ** 39)), "first")
        self.assertEqual(winner(LINE, "y", (1, 1)), "open")
        self.assertEqual(winner(LINE, "y", pair(1 - TINY)), "second")
        self.assertEqual(winner(Web.read("m = 3/7"), "m", (3, 7)), "open")
        self.assertEqual(winner(Web.read("m = 3/7"), "m", (1, 2)), "first")
        self.assertEqual(winner(Web.read("m = 3/7"), "m", (2, 5)), "second")

    def test_what_was_told_may_be_given(self):
        for web in some_webs():
            for place, told in zip(web.places, needs(web)):
                self.assertEqual(winner(web, place, told), "open")

    def test_wrong_arguments(self):
        self.check_arguments(winner, web_argument(LINE), place_argument(LINE, "a"), share_argument((1, 2)))
        self.check_arguments(winner, web_argument(LINE), place_argument(LINE, "x"), share_argument((1, 2)))


class TestBetween(WebCase):
    def test_bounds_are_left_out(self):
        for web in some_webs()[:30]:
            table = told_needs(web)
            shares = shares_around([table[place] for place in web.places[:2]])
            for low in shares:
                for high in shares:
                    wanted = [place for place in web.places if Fraction(*low) < table[place] < Fraction(*high)]
                    self.assertEqual(between(web, low, high), tuple(wanted))

    def test_low_above_high(self):
        self.assertEqual(between(LINE, (1, 1), (0, 1)), ())
        self.assertEqual(between(LINE, (1, 2), (1, 3)), ())
        self.assertEqual(between(LINE, (1, 3), (1, 3)), ())
        self.assertEqual(between(LINE, (0, 1), (1, 1)), ("a", "b"))
        self.assertEqual(between(LINE, (1, 3), (1, 1)), ("b",))
        self.assertEqual(between(LINE, (0, 1), (2, 3)), ("a",))
        self.assertEqual(between(LINE, (1, 3), (2, 3)), ())
        self.assertEqual(between(LINE, pair(Fraction(1, 3) - TINY), pair(Fraction(2, 3) + TINY)), ("a", "b"))
        self.assertEqual(self.check_same(between, FORK, (1, 2), (1, 1)), ("a", "c"))

    def test_wrong_arguments(self):
        low, high = share_argument((1, 3), "low"), share_argument(pair(HALF), "high")
        self.check_arguments(between, web_argument(LINE), low, high)
        for wrong in wrong_fractions():
            self.check_error(InvalidShare, wrong, between, LINE, wrong, wrong_webs()[0])


if __name__ == "__main__":
    unittest.main()
