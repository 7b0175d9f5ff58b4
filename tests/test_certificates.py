import inspect
import random
import unittest
from fractions import Fraction

from biddingmoves import certificates as module
from biddingmoves.bids import is_safe, safe_bids
from biddingmoves.certificates import certify_bid, certify_need, certify_share, certify_within
from biddingmoves.checker import accepts
from biddingmoves.errors import InvalidBid, InvalidMove
from biddingmoves.moves import need_within
from biddingmoves.needs import need, needs
from biddingmoves.webs import Web
from cases import (
    FORK, LINE, TINY, WebCase, moves_argument, pair, place_argument, share_argument, shares_around, some_webs,
    web_argument, wrong_fractions, wrong_places,
)

ALONE = Web.read("m = 3/7")
NEEDS = ((1, 3), (2, 3), (0, 1), (1, 1))


class CertifyCase(WebCase):
    def check_pair(self, told, claim, paper):
        """It is this pair, with these very kinds of values, and it is accepted."""
        self.assertIs(type(told), tuple)
        self.assertEqual(repr(told), repr((claim, paper)))
        self.assertIs(accepts(told[0], told[1]), True)


class TestExamples(CertifyCase):
    def test_examples_of_the_document(self):
        papers = [
            certify_need(LINE, "a"), certify_share(LINE, "a", (2, 5)), certify_share(LINE, "b", (2, 5)),
            certify_within(LINE, "a", 1), certify_bid(LINE, "a", (2, 5), (1, 3), "x"),
        ]
        self.assertEqual((papers[0][0][3], papers[0][1]), ((1, 3), NEEDS))
        self.assertEqual((papers[1][0][0], papers[2][0][0]), ("below", "above"))
        ones = ((1, 1), (1, 1), (0, 1), (1, 1))
        self.assertEqual(papers[3][1], (ones, ((1, 2), (1, 1), (0, 1), (1, 1))))
        self.assertEqual(papers[4][0][0], "safe")
        self.assertIsNone(certify_bid(LINE, "a", (2, 5), (1, 4), "x"))
        self.assertEqual([accepts(*papers[at]) for at in (0, 3, 4)], [True] * 3)
        self.assertIs(accepts(papers[0][0], ((1, 2), (1, 2), (0, 1), (1, 1))), False)
        self.assertIs(accepts(("below", LINE.rows, "b", (1, 2)), papers[0][1]), False)

    def test_interface(self):
        wanted = {
            "certify_need": "web place", "certify_share": "web place share", "certify_within": "web place moves",
            "certify_bid": "web place share bid to",
        }
        for name, parameters in wanted.items():
            call = getattr(module, name)
            self.assertEqual(call.__module__, "biddingmoves.certificates")
            self.assertEqual(list(inspect.signature(call).parameters), parameters.split())


class TestNeedAndShare(CertifyCase):
    def test_need(self):
        for web in some_webs():
            for place, needed in zip(web.places, needs(web)):
                told = self.check_same(certify_need, web, place)
                self.check_pair(told, ("needs", web.rows, place, needed), needs(web))
        told = certify_need(ALONE, "m")
        self.check_pair(told, ("needs", (("m", (3, 7)),), "m", (3, 7)), ((3, 7),))

    def test_share_below_at_and_above_the_need(self):
        found = {"below": 0, "above": 0, "needs": 0}
        for web in some_webs():
            for place in web.places:
                needed = Fraction(*need(web, place))
                for share in shares_around([needed]):
                    m = Fraction(*share)
                    word = "below" if needed < m else "above" if needed > m else "needs"
                    told = certify_share(web, place, share)
                    self.check_pair(told, (word, web.rows, place, share), needs(web))
                    found[word] += 1
        self.assertGreater(min(found.values()), 100)
        for place in "abxy":
            for share in ((0, 1), (1, 3), (1, 1)):
                self.check_same(certify_share, LINE, place, share)

    def test_wrong_arguments(self):
        for place in "ax":
            known = (web_argument(LINE), place_argument(LINE, place))
            self.check_arguments(certify_need, *known)
            self.check_arguments(certify_share, *known, share_argument((1, 3)))


class TestWithin(CertifyCase):
    def test_no_moves_one_and_60(self):
        for web in some_webs():
            for moves in (0, 1, 2, 60):
                rows = tuple(tuple(need_within(web, place, at) for place in web.places) for at in (0, 1, moves))
                for place in web.places[:3] + web.places[-2:]:
                    claim, paper = certify_within(web, place, moves)
                    self.check_pair((claim, paper), ("within", web.rows, place, moves, need_within(web, place, moves)),
                                    paper)
                    self.assertEqual(len(paper), moves + 1)
                    self.assertEqual((paper[0], paper[min(moves, 1)], paper[-1]), (rows[0], rows[min(moves, 1)], rows[2]))
        self.check_pair(certify_within(LINE, "x", 0), ("within", LINE.rows, "x", 0, (0, 1)),
                        (((1, 1), (1, 1), (0, 1), (1, 1)),))

    def test_by_place_and_by_name(self):
        for place in "abxy":
            for moves in (0, 1, 60):
                self.check_same(certify_within, LINE, place, moves)

    def test_wrong_arguments(self):
        for place in "ax":
            self.check_arguments(
                certify_within, web_argument(LINE), place_argument(LINE, place), moves_argument(60)
            )


class TestBid(CertifyCase):
    def test_bids_at_both_ends_of_what_is_safe(self):
        found = {True: 0, False: 0}
        chance = random.Random(91)
        for web in some_webs():
            for place in web.places:
                if place in web.ends:
                    continue
                for share in chance.sample(shares_around([Fraction(*need(web, place))]), 3) + [(1, 1)]:
                    m = Fraction(*share)
                    for to in web.arrows(place):
                        low, high = safe_bids(web, place, share, "first", to) or ((0, 1), (1, 2))
                        bids = {Fraction(*each) + more for each in (low, high) for more in (-TINY, 0, TINY)}
                        for bid in sorted(bid for bid in bids | {Fraction(0), m, m / 2} if 0 <= bid <= m):
                            told = certify_bid(web, place, share, pair(bid), to)
                            wanted = is_safe(web, place, share, "first", pair(bid), to)
                            self.assertIs(told is not None, wanted)
                            if wanted:
                                claim = ("safe", web.rows, place, share, pair(bid), to)
                                self.check_pair(told, claim, needs(web))
                            found[wanted] += 1
        self.assertGreater(min(found.values()), 500)

    def test_where_no_arrow_leads(self):
        for place, to in (("a", "a"), ("a", "y"), ("b", "b"), ("b", "x"), ("x", "x"), ("x", "a"), ("y", "y")):
            for share in ((2, 5), (1, 1)):
                for bid in ((0, 1), (1, 3), (2, 5)):
                    self.assertIsNone(certify_bid(LINE, place, share, bid, to))
        self.assertIsNone(certify_bid(ALONE, "m", (1, 1), (0, 1), "m"))

    def test_not_safe_for_first(self):
        self.assertIsNone(certify_bid(LINE, "a", (1, 10), (1, 10), "b"))
        self.assertIsNone(certify_bid(LINE, "a", (1, 3), (1, 3), "x"))
        self.assertIsNone(certify_bid(LINE, "a", (0, 1), (0, 1), "x"))
        self.assertIsNone(certify_bid(LINE, "a", (2, 5), (1, 3), "b"))
        self.assertIsNotNone(certify_bid(LINE, "a", (1, 1), (0, 1), "x"))

    def test_by_place_and_by_name(self):
        for bid in ((1, 3), (1, 4)):
            for to in "abxy":
                self.check_same(certify_bid, LINE, "a", (2, 5), bid, to)
        self.check_same(certify_bid, FORK, "c", (9, 10), (1, 12), "a")

    def test_wrong_arguments(self):
        more = [pair(Fraction(2, 5) + TINY), (1, 2), (1, 1)]
        bid = ("bid", (2, 5), InvalidBid, [*wrong_fractions(), *more])
        for place in "ax":
            to = ("to", "x", InvalidMove, wrong_places(LINE))
            known = (web_argument(LINE), place_argument(LINE, place), share_argument((2, 5)))
            self.check_arguments(certify_bid, *known, bid, to)


if __name__ == "__main__":
    unittest.main()
