import inspect
import random
import unittest
from fractions import Fraction

from biddingmoves import changing as module
from biddingmoves.changing import gain_of_arrow, greatest_need, greatest_number, helping, least_need, needless
from biddingmoves.errors import (
    AtAnEnd, InvalidMove, InvalidNumber, InvalidShare, NotAnEnd, NotAWeb, UnknownPlace,
)
from biddingmoves.needs import need, needs
from biddingmoves.webs import Web
from cases import (
    FORK, LINE, TINY, WebCase, line_of, pair, place_argument, share_argument, some_webs, web_argument,
    wrong_places,
)
from samples import is_reference_rows, odd_values

ALONE = Web.read("m = 3/7")


def told_need(rows, place):
    return Fraction(*need(Web(rows), place))


def with_what(rows, place, what):
    return tuple((spot, what if spot == place else old) for spot, old in rows)


def wider_rows(rows, place, to):
    return with_what(rows, place, tuple(sorted({*dict(rows)[place], to})))


def free_pairs(web):
    what = dict(web.rows)
    return [
        (place, to) for place in web.places for to in web.places if place not in web.ends and to not in what[place]
    ]


def some_few_webs():
    return some_webs()[:30] + some_webs()[40:]


def wrong_bits():
    values = [value for value in odd_values() if not (type(value) is int and 0 <= value <= 20)]
    return values + [-1, 21, 22, 60, 10 ** 39, True, False, "1", (1,), [1], b"1"]


def bits_argument(bits):
    return "bits", bits, InvalidNumber, wrong_bits()


def asked_argument(place):
    return "asked", place, UnknownPlace, wrong_places(LINE)


def end_argument(place):
    return "end", place, UnknownPlace, wrong_places(LINE)


class TestExamples(WebCase):
    def test_examples_of_the_document(self):
        self.assertEqual(gain_of_arrow(LINE, "a", "b", "x"), (1, 12))
        self.assertEqual(gain_of_arrow(LINE, "a", "a", "y"), (-1, 6))
        self.assertEqual(gain_of_arrow(FORK, "a", "c", "b"), (1, 24))
        self.assertEqual(helping(LINE, "a"), (("b", "x"),))
        self.assertEqual(helping(FORK, "b"), ())
        self.assertEqual(needless(LINE), ())
        self.assertEqual(least_need(FORK, "a", "y"), (0, 1))
        self.assertEqual(greatest_need(FORK, "a", "x"), (1, 1))
        self.assertEqual(greatest_number(LINE, "a", "x", (1, 2), 4), (1, 4))
        self.assertEqual(greatest_number(LINE, "a", "y", (1, 10), 3), (1, 4))
        self.assertEqual(needless(Web.read("a: b x y\nb: x y\nx = 0/1\ny = 1/1")), (("a", "b"),))
        self.assertIsNone(greatest_number(LINE, "b", "x", (1, 2), 3))

    def test_interface(self):
        wanted = {
            "gain_of_arrow": "web asked place to", "helping": "web asked", "needless": "web",
            "least_need": "web asked end", "greatest_need": "web asked end",
            "greatest_number": "web asked end share bits",
        }
        for name, parameters in wanted.items():
            call = getattr(module, name)
            self.assertEqual(call.__module__, "biddingmoves.changing")
            self.assertEqual(list(inspect.signature(call).parameters), parameters.split())


class TestGainOfArrow(WebCase):
    def test_the_need_less_the_need_with_the_arrow(self):
        chance = random.Random(51)
        signs = {-1: 0, 0: 0, 1: 0}
        for web in some_webs():
            pairs = free_pairs(web)
            for place, to in chance.sample(pairs, min(4, len(pairs))):
                for asked in web.places:
                    told = gain_of_arrow(web, asked, place, to)
                    self.check_fraction(told)
                    gain = told_need(web.rows, asked) - told_need(wider_rows(web.rows, place, to), asked)
                    self.assertEqual(told, pair(gain))
                    signs[(gain > 0) - (gain < 0)] += 1
        self.assertGreater(min(signs.values()), 50)

    def test_arrows_that_change_nothing(self):
        """Just those to a place whose need is from the least to the greatest one where arrows lead."""
        found = {True: 0, False: 0}
        for web in some_webs()[::3]:
            table = {place: Fraction(*told) for place, told in zip(web.places, needs(web))}
            for place, to in free_pairs(web):
                leads = [table[spot] for spot in web.arrows(place)]
                nothing = all(gain_of_arrow(web, asked, place, to) == (0, 1) for asked in web.places)
                self.assertIs(nothing, min(leads) <= table[to] <= max(leads))
                found[nothing] += 1
        self.assertGreater(min(found.values()), 50)

    def test_arrows_that_are_there(self):
        for web in (LINE, FORK, Web.read("a: a z\nz = 2/7")):
            for place in web.places:
                for to in web.arrows(place):
                    for asked in web.places:
                        self.assertEqual(gain_of_arrow(web, asked, place, to), (0, 1))

    def test_arrows_from_an_end(self):
        for place in "xy":
            for to in "abxy":
                for asked in "abxy":
                    with self.assertRaises(AtAnEnd):
                        gain_of_arrow(LINE, asked, place, to)
        with self.assertRaises(AtAnEnd):
            gain_of_arrow(ALONE, "m", "m", "m")

    def test_by_place_and_by_name(self):
        for asked in "abxy":
            for place, to in free_pairs(LINE):
                self.check_same(gain_of_arrow, LINE, asked, place, to)

    def test_wrong_arguments(self):
        to = ("to", "y", InvalidMove, wrong_places(LINE))
        for asked in "ax":
            known = (web_argument(LINE), asked_argument(asked))
            self.check_arguments(gain_of_arrow, *known, place_argument(LINE, "a"), to)
            self.check_arguments(gain_of_arrow, *known, place_argument(LINE, "x"), to, last=AtAnEnd)


class TestHelping(WebCase):
    def wanted(self, web, asked):
        told = {each: told_need(wider_rows(web.rows, *each), asked) for each in free_pairs(web)}
        least = min(told.values(), default=Fraction(2))
        if least >= told_need(web.rows, asked):
            return ()
        return tuple(sorted(each for each, needed in told.items() if needed == least))

    def test_all_pairs_with_the_least_need(self):
        found = {0: 0, 1: 0, 2: 0}
        for web in [web for web in some_few_webs() if len(free_pairs(web)) < 40]:
            for asked in web.places:
                told = helping(web, asked)
                self.assertIs(type(told), tuple)
                self.assertEqual(told, self.wanted(web, asked))
                found[min(len(told), 2)] += 1
        self.assertGreater(min(found.values()), 10)

    def test_one_several_and_none(self):
        self.assertEqual(helping(LINE, "b"), (("b", "x"),))
        self.assertEqual(helping(LINE, "x"), ())
        self.assertEqual(helping(LINE, "y"), ())
        self.assertEqual(helping(ALONE, "m"), ())
        several = Web.read("a: y\nb: y\nw = 0/1\nx = 0/1\ny = 1/1")
        self.assertEqual(helping(several, "a"), (("a", "w"), ("a", "x")))
        self.assertEqual(helping(several, "b"), (("b", "w"), ("b", "x")))
        chain = Web.read("a: b\nb: z\nx = 0/1\nz = 1/1")
        self.assertEqual(helping(chain, "a"), (("a", "x"), ("b", "x")))
        self.assertEqual(helping(Web.read("a: z\nb: a\nz = 1/2"), "b"), ())
        self.assertEqual(helping(Web.read("a: x z\nb: x\nx = 1/4\nz = 1/2"), "a"), ())

    def test_by_place_and_by_name(self):
        for asked in "abxy":
            self.check_same(helping, LINE, asked)

    def test_wrong_arguments(self):
        self.check_arguments(helping, web_argument(LINE), asked_argument("a"))


class TestNeedless(WebCase):
    def wanted(self, web):
        pairs = []
        for place in web.places:
            for to in web.arrows(place):
                rows = with_what(web.rows, place, tuple(spot for spot in web.arrows(place) if spot != to))
                if is_reference_rows(rows) and needs(Web(rows)) == needs(web):
                    pairs.append((place, to))
        return tuple(pairs)

    def test_arrows_whose_absence_changes_no_need(self):
        some, no_way = 0, 0
        for web in some_webs():
            told = self.check_same(needless, web)
            self.assertIs(type(told), tuple)
            self.assertEqual(told, self.wanted(web))
            some += told != ()
            no_way += any(len(web.arrows(place)) == 1 for place in web.places)
        self.assertGreater(some, 10)
        self.assertGreater(no_way, 10)

    def test_last_arrows_and_ways_to_an_end(self):
        self.assertEqual(needless(ALONE), ())
        self.assertEqual(needless(Web.read("a: z\nb: a\nz = 1/2")), ())
        # All needs are 3/8 with and without each arrow; but only from `d` there is a way to the end.
        ring = Web.read("a: b\nb: c\nc: d\nd: a z\nz = 3/8")
        self.assertEqual(needless(ring), (("d", "a"),))
        self.assertEqual(needless(Web.read("a: a z\nz = 2/7")), (("a", "a"),))
        same = Web.read("a: x y\nx = 1/2\ny = 1/2")
        self.assertEqual(needless(same), (("a", "x"), ("a", "y")))
        several = Web.read("a: w x y z\nw = 0/1\nx = 0/1\ny = 1/3\nz = 1/1")
        self.assertEqual(needless(several), (("a", "w"), ("a", "x"), ("a", "y")))

    def test_wrong_arguments(self):
        self.check_arguments(needless, web_argument(LINE))


class TestOtherNumbers(WebCase):
    def test_least_and_greatest_need(self):
        for web in some_webs():
            for end in web.ends:
                low, high = with_what(web.rows, end, (0, 1)), with_what(web.rows, end, (1, 1))
                for asked in web.places:
                    least, greatest = least_need(web, asked, end), greatest_need(web, asked, end)
                    self.check_fraction(least)
                    self.check_fraction(greatest)
                    self.assertEqual(least, pair(told_need(low, asked)))
                    self.assertEqual(greatest, pair(told_need(high, asked)))
                    self.assertLessEqual(Fraction(*least), Fraction(*need(web, asked)))
                    self.assertLessEqual(Fraction(*need(web, asked)), Fraction(*greatest))

    def test_asked_at_ends(self):
        self.assertEqual(least_need(LINE, "x", "x"), (0, 1))
        self.assertEqual(greatest_need(LINE, "x", "x"), (1, 1))
        self.assertEqual(least_need(LINE, "x", "y"), (0, 1))
        self.assertEqual(greatest_need(LINE, "y", "x"), (1, 1))
        self.assertEqual(least_need(ALONE, "m", "m"), (0, 1))
        self.assertEqual(greatest_need(ALONE, "m", "m"), (1, 1))

    def test_end_that_is_no_end(self):
        for call in (least_need, greatest_need):
            for asked in "abxy":
                for end in "ab":
                    with self.assertRaises(NotAnEnd):
                        call(LINE, asked, end)

    def test_by_place_and_by_name(self):
        for asked in "abxy":
            for end in "xy":
                self.check_same(least_need, LINE, asked, end)
                self.check_same(greatest_need, LINE, asked, end)

    def test_wrong_arguments(self):
        for call in (least_need, greatest_need):
            known = (web_argument(LINE), asked_argument("a"))
            self.check_arguments(call, *known, end_argument("x"))
            self.check_arguments(call, *known, end_argument("b"), last=NotAnEnd)


class TestGreatestNumber(WebCase):
    def check_number(self, web, asked, end, share, bits):
        """By the words of the document, with the next number looked at, too."""
        told = greatest_number(web, asked, end, share, bits)
        limit = Fraction(*share)
        if told is None:
            self.assertGreater(told_need(with_what(web.rows, end, (0, 1)), asked), limit)
            return told
        self.check_fraction(told)
        number = Fraction(*told)
        self.assertTrue(0 <= number <= 1)
        self.assertEqual((number * 2 ** bits).denominator, 1)
        self.assertLessEqual(told_need(with_what(web.rows, end, told), asked), limit)
        if number < 1:
            behind = pair(number + Fraction(1, 2 ** bits))
            self.assertGreater(told_need(with_what(web.rows, end, behind), asked), limit)
        return told

    def test_with_few_and_many_bits(self):
        chance = random.Random(52)
        found = {"none": 0, "nothing": 0, "all": 0, "between": 0}
        for web in some_webs():
            for end in web.ends:
                for asked in chance.sample(web.places, min(3, len(web.places))):
                    low = Fraction(*least_need(web, asked, end))
                    high = Fraction(*greatest_need(web, asked, end))
                    shares = {low, high, (low + high) / 2, low - TINY, high - TINY, Fraction(chance.randint(0, 9), 9)}
                    for share in sorted(share for share in shares if 0 <= share <= 1):
                        told = self.check_number(web, asked, end, pair(share), chance.choice([0, 1, 3, 20]))
                        words = {None: "none", (0, 1): "nothing", (1, 1): "all"}
                        found[words.get(told, "between")] += 1
        self.assertGreater(min(found.values()), 20)

    def test_all_numbers_of_a_few_bits(self):
        for web, asked, end in ((LINE, "a", "x"), (LINE, "b", "x"), (FORK, "c", "y"), (line_of(3), "b", "e")):
            for bits in (0, 1, 4):
                needed = [told_need(with_what(web.rows, end, pair(Fraction(m, 2 ** bits))), asked)
                          for m in range(2 ** bits + 1)]
                for share in sorted({*needed, *[each - TINY for each in needed], Fraction(0), Fraction(1)}):
                    if share >= 0:
                        fits = [m for m, each in enumerate(needed) if each <= share]
                        wanted = pair(Fraction(fits[-1], 2 ** bits)) if fits else None
                        self.assertEqual(greatest_number(web, asked, end, pair(share), bits), wanted)

    def test_without_bits_and_with_20(self):
        self.assertEqual(greatest_number(ALONE, "m", "m", (1, 2), 0), (0, 1))
        self.assertEqual(greatest_number(ALONE, "m", "m", (1, 1), 0), (1, 1))
        self.assertEqual(greatest_number(ALONE, "m", "m", (1, 1), 20), (1, 1))
        self.assertEqual(greatest_number(ALONE, "m", "m", (0, 1), 20), (0, 1))
        self.assertEqual(greatest_number(ALONE, "m", "m", (1, 3), 20), (349525, 2 ** 20))
        self.assertEqual(greatest_number(ALONE, "m", "m", (1, 2), 20), (1, 2))
        self.assertEqual(greatest_number(ALONE, "m", "m", pair(Fraction(1, 2) - TINY), 20), (2 ** 19 - 1, 2 ** 20))
        self.assertEqual(greatest_number(ALONE, "m", "m", (2 ** 20 - 1, 2 ** 20), 20), (2 ** 20 - 1, 2 ** 20))
        self.assertEqual(greatest_number(LINE, "a", "x", (1, 3), 20), (0, 1))
        self.assertIsNone(greatest_number(LINE, "a", "x", pair(Fraction(1, 3) - TINY), 20))
        self.assertEqual(greatest_number(LINE, "x", "y", (0, 1), 5), (1, 1))
        self.assertIsNone(greatest_number(LINE, "y", "x", pair(1 - TINY), 5))
        self.assertEqual(greatest_number(LINE, "y", "x", (1, 1), 5), (1, 1))

    def test_by_place_and_by_name(self):
        for asked in "abxy":
            for end in "xy":
                self.check_same(greatest_number, LINE, asked, end, (1, 2), 3)

    def test_wrong_arguments(self):
        known = (web_argument(LINE), asked_argument("a"))
        behind = (share_argument((1, 2)), bits_argument(20))
        self.check_arguments(greatest_number, *known, end_argument("x"), *behind)
        self.check_arguments(greatest_number, *known, end_argument("b"), *behind, last=NotAnEnd)
        # That the end is none is told behind all else.
        for share, bits, kind in (((2, 1), 0, InvalidShare), ((1, 2), 21, InvalidNumber), ((1, 2), True, InvalidNumber)):
            with self.assertRaises(kind):
                greatest_number(LINE, "a", "a", share, bits)
        with self.assertRaises(NotAWeb):
            greatest_number(None, "q", "q", None, None)


if __name__ == "__main__":
    unittest.main()
