import unittest

from biddingmoves.errors import AtAnEnd, InvalidMove, InvalidPart, NotAnEnd, NoWay, UnknownPlace
from biddingmoves.webs import Web
from samples import LETTERS, LINE_ROWS, TEN_ROWS, leads_to_end, odd_values, random_webs


class ChangeCase(unittest.TestCase):
    def setUp(self):
        self.line = Web(LINE_ROWS)

    def tearDown(self):
        self.assertEqual(self.line.rows, LINE_ROWS)
        self.assertTrue(self.line == Web(LINE_ROWS))

    def check_error(self, kind, given, call, *told, **named):
        with self.assertRaises(kind) as caught:
            call(*told, **named)
        self.assertIs(type(caught.exception), kind)
        self.assertIs(caught.exception.given, given)

    def check_places(self, call, second):
        """Each wrong place is told, whatever else is wrong."""
        for place in odd_values() + [letter for letter in LETTERS if letter not in "abxy"]:
            self.check_error(UnknownPlace, place, call, place, second)
            for wrong in (None, "q", 7, [place]):
                self.check_error(UnknownPlace, place, call, place, wrong)


def changed(rows, place, what):
    return tuple((spot, what if spot == place else old) for spot, old in rows)


class TestWithArrow(ChangeCase):
    def test_example_of_the_document(self):
        self.assertEqual(self.line.with_arrow("a", "y").arrows("a"), ("b", "x", "y"))

    def test_one_more_and_all_else_as_it_is(self):
        more = self.line.with_arrow("b", "b")
        self.assertEqual(more.rows, changed(LINE_ROWS, "b", ("a", "b", "y")))
        self.assertEqual(self.line.with_arrow(place="b", to="b").rows, more.rows)
        self.assertEqual(self.line.with_arrow(to="b", place="b").rows, more.rows)
        self.assertIs(type(more), Web)

    def test_the_same_web_if_it_is_there(self):
        self.assertTrue(self.line.with_arrow("a", "b") == self.line)
        self.assertTrue(self.line.with_arrow("b", "y") == self.line)

    def test_random_webs(self):
        for web in random_webs(4, 60):
            rows = web.rows
            for place in web.places:
                for to in web.places:
                    if place in web.ends:
                        self.assertRaises(AtAnEnd, web.with_arrow, place, to)
                    else:
                        wanted = tuple(sorted({*web.arrows(place), to}))
                        self.assertEqual(web.with_arrow(place, to).rows, changed(rows, place, wanted))
            self.assertEqual(web.rows, rows)

    def test_errors_in_their_order(self):
        self.check_places(self.line.with_arrow, "a")
        for to in odd_values() + ["c", "z"]:
            self.check_error(InvalidMove, to, self.line.with_arrow, "a", to)
            self.check_error(InvalidMove, to, self.line.with_arrow, "x", to)
            self.check_error(InvalidMove, to, self.line.with_arrow, place="x", to=to)
        for to in "abxy":
            self.assertRaises(AtAnEnd, self.line.with_arrow, "x", to)


class TestWithoutArrow(ChangeCase):
    def check_no_way(self, spot, call, *told):
        with self.assertRaises(NoWay) as caught:
            call(*told)
        self.assertEqual(caught.exception.spot, spot)

    def test_examples_of_the_document(self):
        self.assertEqual(self.line.without_arrow("a", "b").text, "a: x\nb: a y\nx = 0/1\ny = 1/1")
        self.check_no_way("a", self.line.without_arrow("a", "x").without_arrow, "b", "y")

    def test_one_less_and_all_else_as_it_is(self):
        less = self.line.without_arrow("b", "y")
        self.assertEqual(less.rows, changed(LINE_ROWS, "b", ("a",)))
        self.assertEqual(self.line.without_arrow(place="b", to="y").rows, less.rows)
        self.assertTrue(less.with_arrow("b", "y") == self.line)

    def test_first_place_without_a_way(self):
        ten = Web(TEN_ROWS)
        self.check_no_way("a", ten.without_arrow, "i", "j")
        self.check_no_way("a", ten.without_arrow, "a", "b")
        self.check_no_way("b", Web.read("a: z\nb: c\nc: b z\nz = 0/1").without_arrow, "c", "z")
        self.check_no_way("b", Web.read("a = 0/1\nb: a\nc: b").without_arrow, "b", "a")
        self.check_no_way("c", Web.read("a = 0/1\nb: a\nc: b").without_arrow, "c", "b")
        self.check_no_way("a", Web.read("a: a z\nz = 0/1").without_arrow, "a", "z")
        self.assertEqual(Web.read("a: a z\nz = 0/1").without_arrow("a", "a").text, "a: z\nz = 0/1")

    def test_random_webs(self):
        stuck = 0
        for web in random_webs(5, 200):
            for place in web.places:
                for to in web.arrows(place):
                    rows = changed(web.rows, place, tuple(spot for spot in web.arrows(place) if spot != to))
                    wrong = [spot for spot in web.places if not leads_to_end(dict(rows), spot)]
                    if wrong:
                        stuck += 1
                        self.check_no_way(wrong[0], web.without_arrow, place, to)
                    else:
                        self.assertEqual(web.without_arrow(place, to).rows, rows)
        self.assertGreater(stuck, 50)

    def test_errors_in_their_order(self):
        self.check_places(self.line.without_arrow, "b")
        for to in odd_values() + ["a", "y", "c", "z"]:
            self.check_error(InvalidMove, to, self.line.without_arrow, "a", to)
            self.check_error(InvalidMove, to, self.line.without_arrow, place="a", to=to)
        for to in odd_values() + ["a", "b", "x", "y"]:
            self.check_error(InvalidMove, to, self.line.without_arrow, "x", to)
        one = Web.read("a: z\nz = 0/1")
        self.check_error(InvalidMove, "a", one.without_arrow, "a", "a")


class TestWithNumber(ChangeCase):
    def test_another_number_and_all_else_as_it_is(self):
        for part in ((0, 1), (1, 1), (1, 3), (1, 10 ** 12), (10 ** 12 - 1, 10 ** 12)):
            other = self.line.with_number("x", part)
            self.assertEqual(other.rows, changed(LINE_ROWS, "x", part))
            self.assertEqual(self.line.with_number(place="x", part=part).rows, other.rows)
            self.assertEqual(self.line.with_number("y", part).rows, changed(LINE_ROWS, "y", part))

    def test_errors_in_their_order(self):
        self.check_places(self.line.with_number, (1, 2))
        for part in odd_values() + [LINE_ROWS, ("a",), ("a", "b")]:
            for place in "abxy":
                self.check_error(InvalidPart, part, self.line.with_number, place, part)
                self.check_error(InvalidPart, part, self.line.with_number, place=place, part=part)
        for place in "ab":
            self.assertRaises(NotAnEnd, self.line.with_number, place, (1, 2))


class TestTurned(ChangeCase):
    def test_each_number_is_one_less_it(self):
        self.assertEqual(self.line.turned().number("x"), (1, 1))
        self.assertEqual(self.line.turned().text, "a: b x\nb: a y\nx = 1/1\ny = 0/1")
        web = Web.read("a: b c d\nb = 2/7\nc = 1/2\nd = 999999999999/1000000000000")
        self.assertEqual(web.turned().text, "a: b c d\nb = 5/7\nc = 1/2\nd = 1/1000000000000")

    def test_twice_is_the_web(self):
        for web in random_webs(6, 100):
            other = web.turned()
            self.assertEqual(other.places, web.places)
            self.assertEqual(other.ends, web.ends)
            for place in web.places:
                self.assertEqual(other.arrows(place), web.arrows(place))
            for end in web.ends:
                n, d = web.number(end)
                self.assertEqual(other.number(end), (d - n, d))
            self.assertTrue(other.turned() == web)


if __name__ == "__main__":
    unittest.main()
