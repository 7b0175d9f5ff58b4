import inspect
import random
import unittest
from fractions import Fraction

from biddingmoves import matches as module
from biddingmoves.bids import ahead
from biddingmoves.errors import AtAnEnd, InvalidBid, InvalidMove, InvalidSide, NothingToUndo
from biddingmoves.matches import Match
from biddingmoves.needs import need, winner
from biddingmoves.webs import Web
from cases import (
    FORK, HALF, LINE, TINY, WebCase, pair, place_argument, share_argument, some_webs, web_argument, wrong_fractions,
    wrong_places, wrong_sides,
)

PROPERTIES = ("web", "place", "share", "changes", "is_over", "leader", "surplus", "trail")
ALONE = Web.read("m = 3/7")
# From `a` on one can go round, so that a match may have many moves.
ROUND = Web.read("a: a b x\nb: a y\nx = 0/1\ny = 1/1")


class Stopped(Exception):
    """Raised by tests within a trial."""


def state(match):
    return [getattr(match, name) for name in PROPERTIES]


def begun():
    """A match with two moves made."""
    match = Match(LINE, "a", (2, 5))
    match.play((1, 3), "x", (1, 2), "b")
    match.play((1, 3), "a", (0, 1), "y")
    return match


def random_share(chance, most=Fraction(1)):
    many = chance.choice([1, 2, 12, 10 ** 20])
    return chance.choice([Fraction(0), most, most * Fraction(chance.randint(0, many), many)])


class MatchCase(WebCase):
    def check_state(self, match, trail):
        """All that is told of a match, by the pairs (place, share) that it has come along."""
        place, share = trail[-1]
        web = match.web
        self.assertEqual(match.trail, tuple(trail))
        self.assertIs(type(match.trail), tuple)
        self.assertEqual((match.place, match.share), (place, share))
        self.check_fraction(match.share)
        self.assertEqual(match.changes, len(trail) - 1)
        self.assertIs(match.is_over, place in web.ends)
        self.assertEqual(match.leader, winner(web, place, share))
        self.assertEqual(match.surplus, ahead(web, place, share))
        self.assertIs(bool(match), True)


class TestExamples(MatchCase):
    def test_examples_of_the_document(self):
        match = Match(LINE, "a", (2, 5))
        self.assertEqual((match.leader, match.surplus), ("first", (1, 15)))
        self.assertIsNone(match.play((1, 3), "x", (1, 2), "b"))
        self.assertEqual((match.place, match.share, match.surplus), ("b", (9, 10), (7, 30)))
        self.assertIsNone(match.play((1, 3), "a", (0, 1), "y"))
        self.assertEqual(match.trail, (("a", (2, 5)), ("b", (9, 10)), ("a", (17, 30))))
        self.assertIsNone(match.play((1, 4), "x", (1, 4), "b"))
        self.assertEqual((match.is_over, match.leader), (True, "first"))
        self.assertIsNone(match.undo())
        self.assertIsNone(match.tried(lambda held: held.play((0, 1), "x", (1, 5), "b")))
        self.assertEqual((match.place, match.changes), ("a", 2))

    def test_interface(self):
        self.assertEqual(Match.__module__, "biddingmoves.matches")
        self.assertEqual(module.Match, Match)
        for name in PROPERTIES:
            self.assertIs(type(vars(Match)[name]), property)
        wanted = {
            "__init__": "self web place share", "undo": "self", "trial": "self", "tried": "self action",
            "play": "self first_bid first_to second_bid second_to paying",
        }
        for name, parameters in wanted.items():
            self.assertEqual(list(inspect.signature(vars(Match)[name]).parameters), parameters.split())
        self.assertEqual(inspect.signature(Match.play).parameters["paying"].default, "first")


class TestBeginning(MatchCase):
    def test_at_each_place(self):
        for web in some_webs()[:30]:
            for place in web.places:
                for share in ((0, 1), (1, 1), need(web, place), pair(TINY)):
                    match = self.check_match(web, place, share)
                    self.check_state(match, [(place, share)])
                    self.assertIs(match.web, web)

    def check_match(self, web, place, share):
        match = Match(web, place, share)
        named = Match(share=share, place=place, web=web)
        self.assertEqual(state(match), state(named))
        return match

    def test_wrong_arguments(self):
        for place in "ax":
            self.check_arguments(Match, web_argument(LINE), place_argument(LINE, place), share_argument((2, 5)))

    def test_one_object_is_equal_to_itself_alone(self):
        match, other = begun(), begun()
        self.assertEqual(state(match), state(other))
        self.assertIs(match == match, True)
        self.assertIs(match != match, False)
        self.assertIs(match == other, False)
        self.assertIs(match != other, True)
        for value in (None, 0, "a", (), LINE, match.trail):
            self.assertIs(match == value, False)
            self.assertIs(match != value, True)
        self.assertIs(bool(Match(ALONE, "m", (0, 1))), True)


class TestPlay(MatchCase):
    def test_who_bids_more_pays_and_moves(self):
        for paying in ("first", "second"):
            match = Match(LINE, "a", (2, 5))
            match.play((1, 5), "x", (1, 10), "b", paying)
            self.check_state(match, [("a", (2, 5)), ("x", (1, 5))])
            match = Match(LINE, "a", (2, 5))
            match.play((1, 10), "x", (1, 5), "b", paying)
            self.check_state(match, [("a", (2, 5)), ("b", (3, 5))])

    def test_like_bids(self):
        for bid, of_first, of_second in (((1, 5), (1, 5), (3, 5)), ((2, 5), (0, 1), (4, 5)), ((0, 1), (2, 5), (2, 5))):
            match = Match(LINE, "a", (2, 5))
            match.play(bid, "x", bid, "b")
            self.check_state(match, [("a", (2, 5)), ("x", of_first)])
            match = Match(LINE, "a", (2, 5))
            match.play(bid, "x", bid, "b", "first")
            self.check_state(match, [("a", (2, 5)), ("x", of_first)])
            match = Match(LINE, "a", (2, 5))
            match.play(bid, "x", bid, "b", "second")
            self.check_state(match, [("a", (2, 5)), ("b", of_second)])

    def test_all_that_a_side_has(self):
        match = Match(LINE, "a", (2, 5))
        match.play((2, 5), "b", (0, 1), "x")
        self.check_state(match, [("a", (2, 5)), ("b", (0, 1))])
        match.play((0, 1), "a", (1, 1), "y")
        self.check_state(match, [("a", (2, 5)), ("b", (0, 1)), ("y", (1, 1))])
        match = Match(LINE, "b", (1, 1))
        match.play((1, 1), "a", (0, 1), "y")
        self.check_state(match, [("b", (1, 1)), ("a", (0, 1))])
        for tiny in (TINY, -TINY):
            match = Match(LINE, "a", (1, 2))
            match.play(pair(Fraction(1, 4) + tiny), "x", (1, 4), "b", "second" if tiny > 0 else "first")
            self.assertEqual(match.place, "x" if tiny > 0 else "b")

    def test_by_name_and_by_place(self):
        match = Match(LINE, "a", (2, 5))
        match.play(paying="second", second_to="b", second_bid=(1, 5), first_to="x", first_bid=(1, 5))
        self.check_state(match, [("a", (2, 5)), ("b", (3, 5))])
        match.undo()
        match.play((1, 5), "x", second_bid=(1, 5), second_to="b")
        self.check_state(match, [("a", (2, 5)), ("x", (1, 5))])

    def test_back_to_the_same_place(self):
        match = Match(ROUND, "a", (1, 2))
        match.play((0, 1), "a", (0, 1), "b")
        match.play((1, 4), "a", (0, 1), "b")
        match.play((0, 1), "x", (3, 4), "a")
        self.check_state(match, [("a", (1, 2)), ("a", (1, 2)), ("a", (1, 4)), ("a", (1, 1))])

    def test_who_has_won_at_an_end(self):
        for share, leader in (((3, 7), "open"), ((1, 2), "first"), ((2, 5), "second")):
            self.check_state(Match(ALONE, "m", share), [("m", share)])
            self.assertEqual(Match(ALONE, "m", share).leader, leader)
            self.assertIs(Match(ALONE, "m", share).is_over, True)
        match = Match(LINE, "a", (2, 5))
        match.play((2, 5), "x", (0, 1), "b")
        self.assertEqual((match.leader, match.surplus), ("open", (0, 1)))

    def test_random_matches(self):
        """With a list of pairs beside the match, moves and moves taken back."""
        chance = random.Random(61)
        ended = 0
        for web in some_webs() * 2:
            place, share = chance.choice(web.places), pair(random_share(chance))
            match, trail = Match(web, place, share), [(place, share)]
            for _ in range(12):
                place, share = trail[-1][0], Fraction(*trail[-1][1])
                if place in web.ends:
                    with self.assertRaises(AtAnEnd):
                        match.play((0, 1), "a", (0, 1), "b")
                    ended += 1
                elif chance.random() < 0.8:
                    bids = [random_share(chance, share), random_share(chance, 1 - share)]
                    if chance.random() < 0.3:
                        bids = [min(bids)] * 2
                    goals = [chance.choice(web.arrows(place)) for _ in bids]
                    paying = chance.choice(["first", "second"])
                    self.assertIsNone(match.play(pair(bids[0]), goals[0], pair(bids[1]), goals[1], paying))
                    if bids[0] > bids[1] or (bids[0] == bids[1] and paying == "first"):
                        trail.append((goals[0], pair(share - bids[0])))
                    else:
                        trail.append((goals[1], pair(share + bids[1])))
                if chance.random() < 0.2 and len(trail) > 1:
                    self.assertIsNone(match.undo())
                    trail.pop()
                self.check_state(match, trail)
        self.assertGreater(ended, 100)

    def test_moves_at_an_end_ahead_of_all(self):
        for match in (Match(LINE, "x", (2, 5)), Match(ALONE, "m", (3, 7))):
            for told in (
                ((0, 1), "a", (0, 1), "b"), ((0, 1), "x", (0, 1), "x"), (None, None, None, None),
                ((2, 1), "q", [], "q", "third"),
            ):
                before = state(match)
                with self.assertRaises(AtAnEnd):
                    match.play(*told)
                self.assertEqual(state(match), before)

    def test_wrong_arguments(self):
        match = begun()
        before = state(match)
        more = [(4, 7), pair(Fraction(17, 30) + TINY), (1, 1)]
        first_bid = ("first_bid", (17, 30), InvalidBid, [*wrong_fractions(), *more])
        more = [(4, 9), pair(Fraction(13, 30) + TINY), (17, 30), (1, 1)]
        second_bid = ("second_bid", (13, 30), InvalidBid, [*wrong_fractions(), *more])
        first_to = ("first_to", "x", InvalidMove, [*wrong_places(LINE), "a", "y"])
        second_to = ("second_to", "b", InvalidMove, [*wrong_places(LINE), "a", "y"])
        for paying in ("first", "second"):
            side = ("paying", paying, InvalidSide, wrong_sides())
            self.check_arguments(match.play, first_bid, first_to, second_bid, second_to, side)
            self.assertEqual(state(match), before)
            told = match.tried(lambda held: [held.play((17, 30), "x", (13, 30), "b", paying), held.trail])
            self.assertEqual(told, [None, (*match.trail, ("x", (0, 1)))])
        self.assertEqual(state(match), before)


class TestUndo(MatchCase):
    def test_back_to_the_beginning_and_once_more(self):
        match = begun()
        trail = list(match.trail)
        for many in (2, 1):
            self.assertIsNone(match.undo())
            self.check_state(match, trail[:many])
        for _ in range(2):
            with self.assertRaises(NothingToUndo):
                match.undo()
            self.check_state(match, trail[:1])
        match.play((0, 1), "b", (1, 2), "x")
        self.check_state(match, [("a", (2, 5)), ("x", (9, 10))])

    def test_what_was_told_stays_as_it_is(self):
        match = begun()
        trail = match.trail
        match.undo()
        match.play((0, 1), "a", (1, 10), "y")
        self.assertEqual(trail, (("a", (2, 5)), ("b", (9, 10)), ("a", (17, 30))))
        self.assertEqual(match.trail, (("a", (2, 5)), ("b", (9, 10)), ("y", (1, 1))))


class TestTrials(MatchCase):
    def check_as_before(self, match, before):
        """Also all that can be taken back is there."""
        self.assertEqual(state(match), before)
        trail = match.trail
        for at in range(len(trail) - 1, 0, -1):
            match.undo()
            self.assertEqual(match.trail, trail[:at])
        self.assertRaises(NothingToUndo, match.undo)

    def test_ended_by_its_rows(self):
        match = begun()
        before = state(match)
        with match.trial() as held:
            self.assertIs(held, match)
            match.play((1, 4), "x", (0, 1), "b")
            self.assertIs(match.is_over, True)
            self.assertEqual(match.changes, 3)
        self.check_as_before(match, before)

    def test_ended_by_a_return_or_a_break(self):
        match = begun()
        before = state(match)

        def share_behind():
            with match.trial():
                match.play((1, 4), "x", (0, 1), "b")
                return match.share

        self.assertEqual(share_behind(), (19, 60))
        for _ in range(3):
            with match.trial():
                match.undo()
                break
        self.check_as_before(match, before)

    def test_ended_by_an_exception(self):
        match = begun()
        before = state(match)
        stopped = Stopped()
        with self.assertRaises(Stopped) as caught:
            with match.trial():
                match.play((1, 4), "x", (0, 1), "b")
                raise stopped
        self.assertIs(caught.exception, stopped)
        self.assertEqual(state(match), before)
        with self.assertRaises(AtAnEnd):
            with match.trial():
                match.play((1, 4), "x", (0, 1), "b")
                match.play((0, 1), "x", (0, 1), "b")
        for kind in (KeyboardInterrupt, GeneratorExit, StopIteration):
            with self.assertRaises(kind):
                with match.trial():
                    match.undo()
                    raise kind()
        self.check_as_before(match, before)

    def test_further_back_than_where_it_began(self):
        match = begun()
        before = state(match)
        with match.trial():
            match.undo()
            match.undo()
            self.assertRaises(NothingToUndo, match.undo)
            match.play((0, 1), "b", (1, 2), "x")
            self.assertEqual(match.trail, (("a", (2, 5)), ("x", (9, 10))))
        self.check_as_before(match, before)

    def test_trials_within_trials(self):
        match = begun()
        before = state(match)
        with match.trial():
            match.undo()
            inside = state(match)
            with match.trial() as held:
                self.assertIs(held, match)
                match.undo()
                match.play((1, 10), "b", (1, 2), "x")
                with self.assertRaises(Stopped):
                    with match.trial():
                        match.undo()
                        raise Stopped()
                self.assertEqual(match.place, "x")
            self.assertEqual(state(match), inside)
        self.check_as_before(match, before)

    def test_the_same_trial_within_itself(self):
        match = begun()
        before = state(match)
        trial = match.trial()
        with trial:
            match.undo()
            inside = state(match)
            with trial as held:
                self.assertIs(held, match)
                match.undo()
                innermost = state(match)
                with trial, trial:
                    match.play((1, 10), "b", (1, 2), "x")
                self.assertEqual(state(match), innermost)
            self.assertEqual(state(match), inside)
        self.assertEqual(state(match), before)
        # Behind all that it begins anew, with what is there then.
        match.undo()
        later = state(match)
        with trial:
            match.play((0, 1), "a", (1, 10), "y")
        self.check_as_before(match, later)

    def test_two_trials_and_two_matches(self):
        match, other = begun(), begun()
        before = state(match)
        one, two = match.trial(), other.trial()
        with one, two, match.trial():
            match.undo()
            other.undo()
            other.undo()
            with one:
                match.undo()
            self.assertEqual((match.changes, other.changes), (1, 0))
        self.assertEqual(state(match), before)
        self.assertEqual(state(other), before)

    def test_a_trial_that_is_only_made(self):
        match = begun()
        before = state(match)
        trial = match.trial()
        self.assertEqual(state(match), before)
        match.undo()
        behind = state(match)
        del trial
        match.trial()
        self.check_as_before(match, behind)

    def test_tried(self):
        match = begun()
        before = state(match)
        told = []

        def action(held):
            told.append(held)
            held.play((1, 4), "x", (0, 1), "b")
            return held.trail

        trail = match.tried(action)
        self.assertIs(told[0], match)
        self.assertEqual(trail, (*before[-1], ("x", (19, 60))))
        self.assertEqual(match.tried(action=action), trail)
        self.assertEqual(len(told), 2)
        self.assertIsNone(match.tried(lambda held: held.undo()))
        self.assertIs(match.tried(lambda held: held), match)
        self.assertEqual(match.tried(lambda held: held.tried(action)), trail)
        self.assertRaises(AtAnEnd, match.tried, lambda held: [held.play((1, 4), "x", (0, 1), "b") for _ in "ab"])
        self.check_as_before(match, before)

    def test_random_trials(self):
        chance = random.Random(62)

        def act(match, depth):
            for _ in range(chance.randint(0, 4)):
                before = state(match)
                word = chance.choice(["play", "undo", "trial", "tried", "same"])
                if word == "play" and not match.is_over:
                    arrows = match.web.arrows(match.place)
                    bids = [pair(random_share(chance, Fraction(*match.share))), (0, 1)]
                    match.play(bids[0], chance.choice(arrows), bids[1], chance.choice(arrows))
                elif word == "undo" and match.changes > 0:
                    match.undo()
                elif word in ("trial", "same") and depth < 4:
                    trial = match.trial() if word == "trial" else same
                    with trial:
                        act(match, depth + 1)
                    self.assertEqual(state(match), before)
                elif word == "tried" and depth < 4:
                    match.tried(lambda held: act(held, depth + 1))
                    self.assertEqual(state(match), before)

        for web in (ROUND, LINE, FORK):
            for _ in range(60):
                match = Match(web, "a", pair(HALF))
                same = match.trial()
                act(match, 0)


class TestWebsStay(MatchCase):
    def test_what_is_passed_is_not_changed(self):
        rows = FORK.rows
        match = Match(FORK, "a", (2, 3))
        match.play((1, 3), "b", (1, 4), "c")
        match.play((1, 3), "x", (1, 3), "y", "second")
        with match.trial():
            match.undo()
        self.assertIs(match.web, FORK)
        self.assertIs(FORK.rows, rows)
        self.assertEqual(FORK, Web(rows))


if __name__ == "__main__":
    unittest.main()
