import inspect
import unittest
from fractions import Fraction

from biddingmoves import moves as module
from biddingmoves.moves import gap_within, hold_within, moves_to_hold, moves_to_win, need_within
from biddingmoves.needs import need
from biddingmoves.webs import Web
from cases import (
    LINE, TINY, WebCase, line_of, moves_argument, pair, place_argument, random_big_webs, share_argument,
    shares_around, some_webs, web_argument,
)


def tables(web, edge):
    """Written apart from the program: what is needed within 0, 1, .., 60 moves, a dict for each."""
    table = {place: Fraction(*web.number(place)) if place in web.ends else Fraction(edge) for place in web.places}
    told = [table]
    for _ in range(60):
        last = told[-1]
        rows = {}
        for place in web.places:
            leads = sorted(last[to] for to in web.arrows(place))
            rows[place] = (leads[0] + leads[-1]) / 2 if leads else last[place]
        told.append(rows)
    return told


def first_index(values):
    return next((at for at, value in enumerate(values) if value), None)


class TestExamples(WebCase):
    def test_examples_of_the_document(self):
        self.assertEqual(need_within(LINE, "a", 0), (1, 1))
        self.assertEqual(need_within(LINE, "a", 1), (1, 2))
        self.assertEqual(need_within(LINE, "a", 3), (3, 8))
        self.assertEqual(hold_within(LINE, "a", 2), (1, 4))
        self.assertEqual(moves_to_win(LINE, "a", (2, 5)), 3)
        self.assertIsNone(moves_to_win(LINE, "a", (1, 3)))
        self.assertEqual(moves_to_hold(LINE, "a", (1, 10)), 2)
        self.assertEqual(moves_to_win(LINE, "x", (1, 2)), 0)
        self.assertEqual(moves_to_win(LINE, "a", (1, 1)), 1)
        self.assertEqual(gap_within(LINE, "a", 2), (1, 4))

    def test_interface(self):
        wanted = {
            "need_within": "web place moves", "hold_within": "web place moves", "gap_within": "web place moves",
            "moves_to_win": "web place share", "moves_to_hold": "web place share",
        }
        for name, parameters in wanted.items():
            call = getattr(module, name)
            self.assertEqual(call.__module__, "biddingmoves.moves")
            self.assertEqual(list(inspect.signature(call).parameters), parameters.split())


class TestWithin(WebCase):
    def test_webs_of_all_forms(self):
        for web in some_webs():
            most, least = tables(web, 1), tables(web, 0)
            for place in web.places:
                for moves in (0, 1, 2, 11, 60):
                    needed, held = most[moves][place], least[moves][place]
                    self.assertEqual(need_within(web, place, moves), pair(needed))
                    self.assertEqual(hold_within(web, place, moves), pair(held))
                    self.assertEqual(gap_within(web, place, moves), pair(needed - held))

    def test_kinds_of_what_is_told(self):
        for web in random_big_webs(31, 15):
            for place in web.places:
                for moves in (0, 1, 7, 60):
                    for call in (need_within, hold_within, gap_within):
                        self.check_fraction(self.check_same(call, web, place, moves))

    def test_no_moves(self):
        for web in some_webs()[:30]:
            for place in web.places:
                if place in web.ends:
                    for moves in (0, 1, 60):
                        self.assertEqual(need_within(web, place, moves), web.number(place))
                        self.assertEqual(hold_within(web, place, moves), web.number(place))
                        self.assertEqual(gap_within(web, place, moves), (0, 1))
                else:
                    self.assertEqual(need_within(web, place, 0), (1, 1))
                    self.assertEqual(hold_within(web, place, 0), (0, 1))
                    self.assertEqual(gap_within(web, place, 0), (1, 1))

    def test_the_need_lies_between(self):
        for web in some_webs()[:30]:
            for place in web.places:
                wanted = Fraction(*need(web, place))
                needed = [Fraction(*need_within(web, place, moves)) for moves in (0, 1, 2, 20, 60)]
                held = [Fraction(*hold_within(web, place, moves)) for moves in (0, 1, 2, 20, 60)]
                self.assertEqual(needed, sorted(needed, reverse=True))
                self.assertEqual(held, sorted(held))
                self.assertTrue(held[-1] <= wanted <= needed[-1])

    def test_sixty_moves_on_the_line(self):
        told = Fraction(*need_within(LINE, "a", 60))
        self.assertEqual(told, Fraction(2 ** 60 // 3 + 1, 2 ** 60))
        self.assertEqual(Fraction(*hold_within(LINE, "a", 60)), Fraction(2 ** 60 // 3, 2 ** 60))
        self.assertEqual(gap_within(LINE, "a", 60), (1, 2 ** 60))

    def test_wrong_arguments(self):
        for call in (need_within, hold_within, gap_within):
            for place in "ax":
                self.check_arguments(call, web_argument(LINE), place_argument(LINE, place), moves_argument(60))


class TestMovesToWin(WebCase):
    def check_share(self, web, place, share, most, least):
        """The told numbers are the first ones within which a side wins, by the tables."""
        m = Fraction(*share)
        win = first_index(m > table[place] for table in most)
        hold = first_index(m < table[place] for table in least)
        for call, wanted in ((moves_to_win, win), (moves_to_hold, hold)):
            told = call(web, place, share)
            self.assertEqual(told, wanted)
            self.assertIs(type(told), type(wanted))
        return win, hold

    def test_shares_around_what_is_needed(self):
        found = set()
        for web in some_webs()[::3]:
            most, least = tables(web, 1), tables(web, 0)
            for place in web.places:
                shares = {Fraction(*need(web, place))}
                for moves in (0, 1, 2, 9, 59, 60):
                    shares |= {most[moves][place], least[moves][place]}
                for share in shares_around(shares):
                    found |= set(self.check_share(web, place, share, most, least))
        self.assertLess({None, 0, 1, 2, 3, 60}, found)

    def test_at_the_need_itself_and_beside_it(self):
        for many in range(1, 9):
            web = line_of(many)
            for at, place in enumerate(web.places[1:-1], start=1):
                share = pair(Fraction(at, many + 1))
                self.assertIsNone(moves_to_win(web, place, share))
                self.assertIsNone(moves_to_hold(web, place, share))
        self.assertIsNone(moves_to_win(LINE, "a", pair(Fraction(1, 3) + TINY)))
        self.assertIsNone(moves_to_hold(LINE, "a", pair(Fraction(1, 3) - TINY)))

    def test_just_at_the_last_number(self):
        for place in "ab":
            needed = Fraction(*need_within(LINE, place, 60))
            before = Fraction(*need_within(LINE, place, 58))
            self.assertIsNone(moves_to_win(LINE, place, pair(needed)))
            self.assertIn(moves_to_win(LINE, place, pair(needed + TINY)), (59, 60))
            self.assertLessEqual(moves_to_win(LINE, place, pair(before + TINY)), 58)
            held = Fraction(*hold_within(LINE, place, 60))
            self.assertIsNone(moves_to_hold(LINE, place, pair(held)))
            self.assertIn(moves_to_hold(LINE, place, pair(held - TINY)), (59, 60))

    def test_at_ends(self):
        web = Web.read("a: m\nm = 3/7")
        self.assertEqual([moves_to_win(web, "m", share) for share in ((1, 2), (3, 7), (2, 5))], [0, None, None])
        self.assertEqual([moves_to_hold(web, "m", share) for share in ((1, 2), (3, 7), (2, 5))], [None, None, 0])
        self.assertEqual([moves_to_win(web, "a", share) for share in ((1, 2), (3, 7), (2, 5))], [1, None, None])
        self.assertEqual([moves_to_hold(web, "a", share) for share in ((1, 2), (3, 7), (2, 5))], [None, None, 1])
        self.assertIsNone(moves_to_win(LINE, "x", (0, 1)))
        self.assertEqual(moves_to_win(LINE, "x", (1, 10 ** 39)), 0)
        self.assertIsNone(moves_to_hold(LINE, "y", (1, 1)))

    def test_by_place_and_by_name(self):
        for web in some_webs()[:12]:
            for place in web.places:
                for share in ((1, 2), (1, 1), (0, 1)):
                    self.check_same(moves_to_win, web, place, share)
                    self.check_same(moves_to_hold, web, place, share)

    def test_wrong_arguments(self):
        for call in (moves_to_win, moves_to_hold):
            for place in "ax":
                self.check_arguments(call, web_argument(LINE), place_argument(LINE, place), share_argument((1, 2)))


if __name__ == "__main__":
    unittest.main()
