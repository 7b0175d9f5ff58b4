"""What holds over the whole program: its parts tell the same, and nothing safe loses the lead."""

import random
import unittest
from fractions import Fraction

from biddingmoves.bids import ahead, is_safe, safe_bids
from biddingmoves.books import Book
from biddingmoves.certificates import certify_bid, certify_need, certify_share, certify_within
from biddingmoves.changing import greatest_number, needless
from biddingmoves.checker import accepts
from biddingmoves.console import Console
from biddingmoves.errors import Broken, InvalidBid, InvalidPart, InvalidShare, NoAnswer, WrongName, WrongValue
from biddingmoves.matches import Match
from biddingmoves.moves import moves_to_hold, moves_to_win, need_within
from biddingmoves.needs import best_moves, need, needs, step, winner
from biddingmoves.plans import even_plan, plan_need
from biddingmoves.webs import Web
from cases import FORK, LINE, TINY, WebCase, pair, random_big_webs, shares_around, some_webs
from samples import random_webs

PLACES = "abcdefghij"


def written(fraction):
    return f"{fraction[0]}/{fraction[1]}"


def starts(web):
    return [place for place in web.places if place not in web.ends]


class TestTheSameIsTold(WebCase):
    def test_by_functions_a_book_and_a_console(self):
        chance = random.Random(111)
        for web in some_webs():
            book, console = Book(), Console()
            book["w"] = web
            console.say("w = " + " / ".join(str(web).split("\n")))
            self.assertEqual(book["w"], console.book["w"])
            for place in web.places:
                self.assertEqual(console.say(f"w need {place}"), written(need(book["w"], place)))
                for share in chance.sample(shares_around([Fraction(*need(web, place))]), 3):
                    told = winner(web, place, share)
                    self.assertEqual(console.say(f"w wins {place} {written(share)}"), told)
                    self.assertEqual(Match(book["w"], place, share).leader, told)
                    words = {"first": "below", "second": "above", "open": "needs"}
                    self.assertEqual(certify_share(web, place, share)[0][0], words[told])
                    moves = moves_to_win(web, place, share)
                    if moves is not None:
                        self.assertEqual(told, "first")
                        self.assertLess(Fraction(*need_within(web, place, moves)), Fraction(*share))
                    if moves_to_hold(web, place, share) is not None:
                        self.assertEqual(told, "second")

    def test_claims_by_a_book_and_a_console(self):
        chance = random.Random(112)
        found = {True: 0, False: 0}
        for web in some_webs():
            book, console = Book(), Console()
            book["w"] = console.book["w"] = web
            for _ in range(8):
                place, other, moves = chance.choice(web.places), chance.choice(PLACES), chance.randint(0, 60)
                part = pair(Fraction(chance.randint(0, 24), 24))
                for claim in (("least", "w", place, part), ("most", "w", place, part), ("order", "w", place, other),
                              ("within", "w", place, moves, part)):
                    more = [written(each) if type(each) is tuple else str(each) for each in claim[2:]]
                    line = " ".join(["w", claim[0], *more])
                    done = self.outcome(lambda: book.claim(claim))
                    self.assertEqual(self.outcome(lambda: console.say(line)), done)
                    found[done is None] += 1
            self.assertEqual(book.claims, console.book.claims)
        self.assertGreater(min(found.values()), 200)

    def outcome(self, action):
        """None, or the index of the claim that would not hold."""
        try:
            action()
        except Broken as e:
            return e.index
        return None

    def put(self, book, web):
        book["w"] = web

    def test_books_keep_claims_true_through_changes(self):
        refused = 0
        for web in [*some_webs(), *random_webs(113, 60)]:
            book = Book()
            book["w"] = web
            table = needs(web)
            for place, told in zip(web.places, table):
                if told[1] <= 10 ** 12:
                    book.claim(("most", "w", place, told))
            for place in starts(web):
                for to in web.places:
                    after = web.with_arrow(place, to)
                    rises = any(
                        Fraction(*higher) > Fraction(*told) for told, higher in zip(table, needs(after))
                        if told[1] <= 10 ** 12
                    )
                    if rises:
                        refused += 1
                        self.assertRaises(Broken, self.put, book, after)
                    else:
                        self.put(book, after)
                        self.assertIs(book["w"], after)
                        book.undo()
                    self.assertIs(book["w"], web)
        self.assertGreater(refused, 50)


class TestCertified(WebCase):
    def test_each_paper_is_accepted(self):
        chance = random.Random(114)
        bids = 0
        for web in some_webs() + random_big_webs(115, 20):
            for place in web.places:
                papers = [certify_need(web, place), certify_within(web, place, chance.choice([0, 1, 13, 60]))]
                for share in chance.sample(shares_around([Fraction(*need(web, place))]), 4):
                    papers.append(certify_share(web, place, share))
                    for to in web.arrows(place):
                        safe = safe_bids(web, place, share, "first", to)
                        if safe is not None:
                            low, high = max(Fraction(*safe[0]), -TINY), min(Fraction(*safe[1]), Fraction(*share) + TINY)
                            papers.append(certify_bid(web, place, share, pair(max((low + high) / 2, 0)), to))
                            bids += 1
                for told in papers:
                    self.assertIs(accepts(told[0], told[1]), True)
                    # The same paper does not carry the claim for another web.
                    other = web.turned()
                    if other != web and needs(other) != needs(web):
                        self.assertIs(accepts((told[0][0], other.rows, *told[0][2:]), told[1]), False)
        self.assertGreater(bids, 300)


class TestMatches(WebCase):
    def begun(self, chance, web):
        """A match whose leader is known."""
        place = chance.choice(starts(web))
        shares = [share for share in shares_around([Fraction(*need(web, place))]) if share != need(web, place)]
        return Match(web, place, chance.choice(shares))

    def safe_bid(self, chance, match, side):
        """A bid that is safe for this side, with a move."""
        share = Fraction(*match.share)
        purse = share if side == "first" else 1 - share
        moves = [(to, safe_bids(match.web, match.place, match.share, side, to)) for to in match.web.arrows(match.place)]
        to, (low, high) = chance.choice([(to, told) for to, told in moves if told is not None])
        low, high = max(Fraction(*low), Fraction(0)), min(Fraction(*high), purse)
        bid = low + (high - low) * Fraction(chance.randint(1, 7), 8) if low < high else low
        self.assertIs(is_safe(match.web, match.place, match.share, side, pair(bid), to), True)
        return bid, to

    def other_bid(self, chance, match, side, bid):
        """Any bid of the other side, often close to the safe one."""
        share = Fraction(*match.share)
        purse = 1 - share if side == "first" else share
        bids = [bid, bid + TINY, bid - TINY, Fraction(0), purse, purse * Fraction(chance.randint(0, 9), 9)]
        right = [each for each in bids if 0 <= each <= purse]
        return chance.choice(right), chance.choice(match.web.arrows(match.place))

    def test_safe_bids_keep_the_lead(self):
        chance = random.Random(116)
        over = {"first": 0, "second": 0}
        for web in [web for web in some_webs() if starts(web)] * 4:
            match = self.begun(chance, web)
            side = match.leader
            for _ in range(10):
                if not match.is_over:
                    mine = self.safe_bid(chance, match, side)
                    theirs = self.other_bid(chance, match, side, mine[0])
                    one, other = (mine, theirs) if side == "first" else (theirs, mine)
                    match.play(pair(one[0]), one[1], pair(other[0]), other[1], chance.choice(["first", "second"]))
                self.assertEqual(match.leader, side)
                self.assertIs(match.surplus[0] > 0, side == "first")
            over[side] += match.is_over
            while match.changes > 0:
                match.undo()
                self.assertEqual(match.leader, side)
        self.assertGreater(min(over.values()), 30)

    def test_bids_that_are_not_safe_can_lose_it(self):
        chance = random.Random(117)
        lost = 0
        for web in [web for web in some_webs() if starts(web)]:
            match = self.begun(chance, web)
            share = Fraction(*match.share)
            if match.leader != "first":
                continue
            for bid in [share * Fraction(n, 6) for n in range(7)]:
                for to in web.arrows(match.place):
                    if is_safe(web, match.place, match.share, "first", pair(bid), to):
                        continue
                    worst = best_moves(web, match.place, "second")[0]
                    plays = [(Fraction(0), worst)] + [(bid, worst)] * (bid <= 1 - share)
                    told = [self.leader_behind(match, bid, to, *play) for play in plays]
                    self.assertTrue([leader for leader in told if leader != "first"])
                    lost += 1
        self.assertGreater(lost, 100)

    def leader_behind(self, match, bid, to, other_bid, other_to):
        """Second pays if both bids are the same, but for bids of nothing, where it lets first go where it wants to."""
        leaders = []
        for paying in ("first", "second"):
            with match.trial() as held:
                held.play(pair(bid), to, pair(other_bid), other_to, paying)
                leaders.append(held.leader)
        return next((leader for leader in leaders if leader != "first"), "first")

    def test_plans_win_within_their_moves(self):
        chance = random.Random(118)
        for web in [web for web in some_webs() if starts(web)] * 2:
            plan = even_plan(web)
            place = chance.choice(starts(web))
            needed = Fraction(*plan_need(web, place, plan, 6))
            if needed >= 1:
                continue
            match = Match(web, place, pair((needed + 1) / 2))
            told = {spot: (bid, to) for spot, bid, to in plan}
            for _ in range(6):
                if not match.is_over:
                    bid, to = told[match.place]
                    other = self.other_bid(chance, match, "first", Fraction(*bid))
                    match.play(bid, to, pair(other[0]), other[1], chance.choice(["first", "second"]))
            self.assertEqual((match.is_over, match.leader), (True, "first"))


class TestWhatWasToldMayBeGiven(WebCase):
    def test_shares_of_long_matches(self):
        """The bottoms of a share become greater with each bid, whatever its size."""
        web = Web.read("a: a b x\nb: a b y\nx = 1/999999999989\ny = 1/1")
        match = Match(web, "a", (1, 2))
        for at in range(150):
            bottom = 10 ** 9 + 2 * at + 1
            match.play(pair(Fraction(1, bottom)), "a", pair(Fraction(1, bottom + 1)), "b")
        share = match.share
        self.check_fraction(share)
        self.assertGreater(len(str(share[1])), 1000)
        self.assertEqual(Match(web, "a", share).surplus, ahead(web, "a", share))
        self.assertIn(winner(web, "a", share), ("first", "second"))
        claim, paper = certify_share(web, "a", share)
        self.assertIs(accepts(claim, paper), True)
        self.assertIs(accepts(("needs", *claim[1:]), paper), False)
        self.assertIs(type(greatest_number(web, "a", "x", share, 20)), tuple)
        self.assertIn(is_safe(web, "a", share, "first", share, "x"), (True, False))
        self.assertEqual(plan_need(web, "x", (("a", share, "x"), ("b", share, "a")), 60), (1, 999999999989))
        console = Console()
        console.book["w"] = web
        self.assertEqual(console.say(f"w wins a {written(share)}"), winner(web, "a", share))
        self.check_error(InvalidPart, share, web.with_number, "x", share)
        doubled = (2 * share[0], 2 * share[1])
        self.check_error(InvalidShare, doubled, winner, web, "a", doubled)
        self.check_error(InvalidBid, doubled, match.play, doubled, "a", (0, 1), "a")

    def test_what_one_function_tells_another_takes(self):
        for web in (LINE, FORK):
            for place in starts(web):
                told = step(web, place)
                self.assertEqual(certify_bid(web, place, (1, 1), told, best_moves(web, place, "first")[0])[0][4], told)
                self.assertEqual(Match(web, place, need(web, place)).leader, "open")
        self.assertEqual(needless(LINE), ())

    def test_each_error_stands_under_one_base_class(self):
        bases = (WrongValue, WrongName, NoAnswer)
        for kind, base in ((Broken, NoAnswer), (InvalidBid, WrongValue)):
            self.assertEqual([each for each in bases if issubclass(kind, each)], [base])


if __name__ == "__main__":
    unittest.main()
