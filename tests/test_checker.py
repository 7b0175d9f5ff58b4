import inspect
import random
import unittest
from fractions import Fraction

from biddingmoves import checker as module
from biddingmoves.checker import accepts
from biddingmoves.moves import need_within
from biddingmoves.needs import need, needs
from biddingmoves.webs import Web
from cases import FORK, LINE, TINY, WebCase, pair, shares_around, some_webs, wrong_fractions, wrong_moves, wrong_places
from samples import is_reference_rows, odd_values, random_rows

NEEDS = ((1, 3), (2, 3), (0, 1), (1, 1))
ROWS = LINE.rows
WITHIN = (((1, 1), (1, 1), (0, 1), (1, 1)), ((1, 2), (1, 1), (0, 1), (1, 1)), ((1, 2), (3, 4), (0, 1), (1, 1)))
SAFE = ("safe", ROWS, "a", (2, 5), (1, 3), "x")
RIGHT = (
    (("needs", ROWS, "a", (1, 3)), NEEDS), (("needs", ROWS, "y", (1, 1)), NEEDS),
    (("above", ROWS, "a", (1, 4)), NEEDS), (("below", ROWS, "a", (1, 2)), NEEDS),
    (("within", ROWS, "b", 2, (3, 4)), WITHIN), (("within", ROWS, "a", 0, (1, 1)), WITHIN[:1]), (SAFE, NEEDS),
)


def is_wrong_fraction(value):
    """Whether it is no fraction at all, also beyond 0 and 1."""
    if type(value) is not tuple or len(value) != 2 or any(type(n) is not int for n in value):
        return True
    n, d = value
    return d < 1 or Fraction(n, d).denominator != d


def wrong_everything():
    """What is no fraction, whether from 0 to 1 or not."""
    return [value for value in wrong_fractions() if is_wrong_fraction(value)]


def tables(web, moves):
    """Written apart from the program: what is needed within 0, 1, .., so many moves."""
    told = [{place: Fraction(*web.number(place)) if place in web.ends else Fraction(1) for place in web.places}]
    for _ in range(moves):
        last = told[-1]
        leads = {place: [last[to] for to in web.arrows(place)] or [last[place]] for place in web.places}
        told.append({place: (min(leads[place]) + max(leads[place])) / 2 for place in web.places})
    return tuple(tuple(pair(table[place]) for place in web.places) for table in told)


def is_safe_bid(web, place, share, bid, to):
    """By the words of the document."""
    if to not in web.arrows(place) or bid > share:
        return False
    table = {spot: Fraction(*told) for spot, told in zip(web.places, needs(web))}
    return share - bid > table[to] and share + bid > max(table[spot] for spot in web.arrows(place))


class CheckerCase(WebCase):
    def check_accepts(self, claim, paper, wanted):
        self.assertIs(accepts(claim, paper), wanted)

    def check_refused(self, claim, *papers):
        for paper in papers:
            self.assertIs(accepts(claim, paper), False)


class TestExamples(CheckerCase):
    def test_examples_of_the_document(self):
        self.check_accepts(("needs", ROWS, "a", (1, 3)), NEEDS, True)
        self.check_accepts(("within", ROWS, "a", 1, (1, 2)), WITHIN[:2], True)
        self.check_accepts(SAFE, NEEDS, True)
        self.check_accepts(("needs", ROWS, "a", (1, 3)), ((1, 2), (1, 2), (0, 1), (1, 1)), False)
        self.check_accepts(("below", ROWS, "b", (1, 2)), NEEDS, False)

    def test_interface(self):
        self.assertEqual(module.accepts.__module__, "biddingmoves.checker")
        self.assertEqual(list(inspect.signature(accepts).parameters), ["claim", "paper"])
        for claim, paper in RIGHT:
            self.assertIs(accepts(claim, paper), True)
            self.assertIs(accepts(claim=claim, paper=paper), True)
            self.assertIs(accepts(paper=paper, claim=claim), True)


class TestTrueClaims(CheckerCase):
    def test_needs_above_and_below(self):
        found = {True: 0, False: 0}
        for web in some_webs():
            paper = needs(web)
            for place, told in zip(web.places, paper):
                needed = Fraction(*told)
                for share in shares_around([needed]) + [(-1, 2), (3, 2), pair(needed + 10 ** 40)]:
                    m = Fraction(*share)
                    for word, wanted in (("needs", needed == m), ("above", needed > m), ("below", needed < m)):
                        self.check_accepts((word, web.rows, place, share), paper, wanted)
                        found[wanted] += 1
        self.assertGreater(min(found.values()), 1000)

    def test_within(self):
        for web in some_webs():
            for moves in (0, 1, 2, 9, 60):
                paper = tables(web, moves)
                for place in web.places:
                    needed = need_within(web, place, moves)
                    self.check_accepts(("within", web.rows, place, moves, needed), paper, True)
                    for more in (TINY, -TINY):
                        near = pair(Fraction(*needed) + more)
                        self.check_accepts(("within", web.rows, place, moves, near), paper, False)

    def test_safe(self):
        chance = random.Random(81)
        found = {True: 0, False: 0}
        for web in some_webs():
            paper = needs(web)
            for place in web.places:
                for share in chance.sample(shares_around([Fraction(*need(web, place))]), 3) + [(1, 1)]:
                    m = Fraction(*share)
                    bids = {Fraction(0), m, Fraction(1), m / 2}
                    for to in web.places:
                        there = Fraction(*need(web, to))
                        bids |= {m - there + more for more in (-TINY, 0, TINY)}
                        bids |= {there - m + more for more in (-TINY, 0, TINY)}
                    bids = sorted(bid for bid in bids if 0 <= bid <= 1)
                    for bid in chance.sample(bids, min(8, len(bids))):
                        for to in web.places:
                            wanted = is_safe_bid(web, place, m, bid, to)
                            self.check_accepts(("safe", web.rows, place, share, pair(bid), to), paper, wanted)
                            found[wanted] += 1
        self.assertGreater(min(found.values()), 1000)

    def test_safe_at_the_edges(self):
        for bid, wanted in (
            ((4, 15), False), (pair(Fraction(4, 15) + TINY), True), (pair(Fraction(2, 5) - TINY), True),
            ((2, 5), False), ((0, 1), False), ((1, 2), False), ((1, 1), False),
        ):
            self.check_accepts(("safe", ROWS, "a", (2, 5), bid, "x"), NEEDS, wanted)
        self.check_accepts(("safe", ROWS, "a", (1, 1), (0, 1), "x"), NEEDS, True)
        self.check_accepts(("safe", ROWS, "a", (1, 1), (1, 1), "x"), NEEDS, False)
        for place, to in (("a", "a"), ("a", "y"), ("b", "x"), ("x", "x"), ("x", "a"), ("y", "y")):
            self.check_accepts(("safe", ROWS, place, (1, 1), (0, 1), to), NEEDS, False)
        # More than first has is not safe, though no need is below 0.
        low = Web.read("a: x\nx = 0/1")
        self.check_accepts(("safe", low.rows, "a", (1, 2), (1, 2), "x"), needs(low), False)
        self.check_accepts(("safe", low.rows, "a", (1, 2), (2, 3), "x"), needs(low), False)
        self.check_accepts(("safe", low.rows, "a", (1, 2), (1, 3), "x"), needs(low), True)

    def test_what_the_whole_purse_gets(self):
        """All claims with few numbers on a small web: each is accepted just if it is true."""
        numbers = [pair(Fraction(n, 6)) for n in range(-1, 8)]
        web = Web.read("a: a x y\nx = 1/6\ny = 5/6")
        paper = needs(web)
        for place in "axy":
            for share in numbers[1:8]:
                for bid in numbers[1:8]:
                    for to in "axy":
                        wanted = is_safe_bid(web, place, Fraction(*share), Fraction(*bid), to)
                        self.check_accepts(("safe", web.rows, place, share, bid, to), paper, wanted)
                for bid in (numbers[0], numbers[8]):
                    self.check_accepts(("safe", web.rows, place, share, bid, "x"), paper, False)
                    self.check_accepts(("safe", web.rows, place, bid, share, "x"), paper, False)


class TestPapers(CheckerCase):
    def changed(self, paper):
        """Papers with one number changed, or one too many or too few, or not quite of this kind."""
        papers = [paper[:-1], paper[1:], (*paper, paper[-1]), (paper[0], *paper), list(paper), (paper,), paper[::-1]]
        for at, told in enumerate(paper):
            if type(told[0]) is int:
                n, d = told
                others = [pair(Fraction(n, d) + more) for more in (TINY, -TINY, Fraction(1, 3), 1, -1)]
                others += [list(told), (2 * n, 2 * d), (-n, -d), (n, d, 1), (n,), (str(n), d), None, n, told * 2]
                others += [(bool(n), d), (n, True)] if (n, d) in ((0, 1), (1, 1)) else []
            else:
                others = self.changed(told)
            papers += [(*paper[:at], other, *paper[at + 1:]) for other in others]
        return [other for other in papers if type(other) is not tuple or repr(other) != repr(paper)]

    def test_changed_papers(self):
        for claim, paper in RIGHT:
            self.check_accepts(claim, paper, True)
            papers = self.changed(paper)
            self.assertGreater(len(papers), 30)
            self.check_refused(claim, *papers)

    def test_changed_papers_of_many_webs(self):
        chance = random.Random(82)
        for web in some_webs():
            place = chance.choice(web.places)
            for claim, paper in (
                (("needs", web.rows, place, need(web, place)), needs(web)),
                (("below", web.rows, place, (2, 1)), needs(web)), (("above", web.rows, place, (-1, 1)), needs(web)),
                (("within", web.rows, place, 2, need_within(web, place, 2)), tables(web, 2)),
            ):
                self.check_accepts(claim, paper, True)
                papers = [other for other in self.changed(paper) if type(other) is not tuple or other != paper]
                self.check_refused(claim, *chance.sample(papers, 20))

    def test_papers_of_other_claims(self):
        for claim, paper in RIGHT:
            for other in (NEEDS, WITHIN, WITHIN[:1], WITHIN[:2], needs(FORK), (), (NEEDS,), NEEDS[:2]):
                self.check_accepts(claim, other, other == paper)
        ones = ((1, 1),) * 4
        self.check_refused(("needs", ROWS, "a", (1, 1)), ones, (1, 1))
        self.check_refused(("within", ROWS, "a", 1, (1, 2)), WITHIN[0], WITHIN[1], (WITHIN[1], WITHIN[1]))
        # The hold begins with 0 instead of 1, the need with itself.
        self.check_refused(("within", ROWS, "a", 0, (0, 1)), (((0, 1), (0, 1), (0, 1), (1, 1)),))
        self.check_refused(("within", ROWS, "a", 1, (1, 3)), (NEEDS, NEEDS))
        self.check_refused(("within", ROWS, "a", 0, (1, 3)), (NEEDS,), NEEDS)

    def test_papers_of_any_kind(self):
        for claim, paper in RIGHT:
            for odd in odd_values():
                self.check_refused(claim, odd, (odd,), (odd,) * len(paper), [odd])
                for at, told in enumerate(paper):
                    self.check_refused(claim, (*paper[:at], odd, *paper[at + 1:]))
                    for k, number in enumerate(told):
                        if type(odd) is not int or odd != number:
                            row = (*told[:k], odd, *told[k + 1:])
                            self.check_refused(claim, (*paper[:at], row, *paper[at + 1:]))

    def test_numbers_that_follow_from_themselves_on_no_web(self):
        """Without a way to an end any number would do; such rows are none."""
        rows = (("a", ("b",)), ("b", ("a",)), ("x", (0, 1)))
        self.check_refused(("needs", rows, "a", (1, 2)), ((1, 2), (1, 2), (0, 1)))
        self.check_refused(("needs", (("a", ("a",)),), "a", (1, 2)), ((1, 2),))


class TestNoClaims(CheckerCase):
    def claims(self):
        for claim, paper in RIGHT:
            for at in range(len(claim)):
                yield (*claim[:at], *claim[at + 1:]), paper
            for more in (None, (1, 3), "x", 0, paper):
                yield (*claim, more), paper
            for other in (list(claim), claim[::-1], (claim,), claim[1:], claim[:1], (), None, claim[0]):
                yield other, paper
            for word in ("need", "Needs", "", "least", "most", "order", "saf", "safes", "NEEDS", None, 0, b"safe"):
                yield (word, *claim[1:]), paper

    def test_other_words_and_lengths(self):
        for claim, paper in self.claims():
            self.check_accepts(claim, paper, False)
        words = ["needs", "above", "below", "within", "safe"]
        for claim, paper in RIGHT:
            for word in words:
                if len(claim) != {"within": 5, "safe": 6}.get(word, 4):
                    self.check_accepts((word, *claim[1:]), paper, False)

    def test_values_of_any_kind_at_each_place(self):
        for odd in odd_values():
            self.check_refused(odd, *[paper for _, paper in RIGHT], odd, None, ())
            for claim, paper in RIGHT:
                for at in range(len(claim)):
                    if (claim[0], at) not in (("above", 3), ("below", 3), ("within", 3), ("safe", 4), ("safe", 3)):
                        self.check_refused((*claim[:at], odd, *claim[at + 1:]), paper, odd)

    def test_rows_that_are_none(self):
        for rows in (
            list(ROWS), ROWS[:3], ROWS[::-1], tuple(list(row) for row in ROWS), dict(ROWS), LINE, LINE.text, (),
            (("a", ["b", "x"]), *ROWS[1:]), (("a", ("x", "b")), *ROWS[1:]), (*ROWS[:3], ("y", (2, 2))),
            (*ROWS[:3], ("y", (True, 1))), (*ROWS[:2], ("x", (0, 2)), ROWS[3]), (("a", ("b",)), ("b", ("a",)), *ROWS[2:]),
            (("a", ("b", "x")), ("b", ("a", "y", "z")), *ROWS[2:]), (*ROWS, ("y", (1, 1))), (*ROWS, None),
        ):
            for claim, paper in RIGHT:
                self.check_refused((claim[0], rows, *claim[2:]), paper, (*paper, (1, 1)), paper[:3])

    def test_random_rows(self):
        chance = random.Random(83)
        found = {True: 0, False: 0}
        for _ in range(300):
            rows = random_rows(chance)
            is_web = is_reference_rows(rows)
            paper = needs(Web(rows)) if is_web else tuple(what if type(what[0]) is int else (1, 2) for _, what in rows)
            claim = ("needs", rows, rows[0][0], paper[0])
            self.check_accepts(claim, paper, is_web)
            found[is_web] += 1
        self.assertGreater(min(found.values()), 50)

    def test_places_that_are_none(self):
        for place in wrong_places(LINE):
            for claim, paper in RIGHT:
                self.check_accepts((*claim[:2], place, *claim[3:]), paper, False)
            self.check_accepts((*SAFE[:5], place), NEEDS, False)

    def test_numbers_that_are_none(self):
        for wrong in wrong_everything():
            for word in ("needs", "above", "below"):
                for place in "abxy":
                    self.check_accepts((word, ROWS, place, wrong), NEEDS, False)
            for moves in range(3):
                self.check_accepts(("within", ROWS, "b", moves, wrong), WITHIN[:moves + 1], False)
        for top, bottom in ((2, 6), (-1, -3), (1, -3), (3, 9)):
            self.check_refused(("needs", ROWS, "a", (top, bottom)), NEEDS)
        self.check_refused(("above", ROWS, "a", (2, 8)), NEEDS)
        self.check_refused(("below", ROWS, "a", (2, 4)), NEEDS)
        for wrong in wrong_fractions():
            self.check_refused(("safe", ROWS, "a", wrong, (0, 1), "x"), NEEDS)
            self.check_refused(("safe", ROWS, "a", (1, 1), wrong, "x"), NEEDS)

    def test_moves_that_are_none(self):
        for moves in wrong_moves():
            for at in range(3):
                claim = ("within", ROWS, "y", moves, (1, 1))
                self.check_refused(claim, WITHIN[:at], WITHIN[:at + 1], NEEDS)
        longer = tables(LINE, 61)
        self.check_accepts(("within", ROWS, "a", 60, longer[60][0]), longer[:61], True)
        self.check_accepts(("within", ROWS, "a", 61, longer[61][0]), longer, False)
        self.check_accepts(("within", ROWS, "a", True, (1, 2)), WITHIN[:2], False)
        self.check_accepts(("within", ROWS, "a", False, (1, 1)), WITHIN[:1], False)
        self.check_accepts(("within", ROWS, "a", -1, (1, 1)), (), False)


if __name__ == "__main__":
    unittest.main()
