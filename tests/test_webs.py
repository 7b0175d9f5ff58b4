import inspect
import random
import re
import unittest

from biddingmoves import webs
from biddingmoves.errors import InvalidRows, InvalidText, NotAnEnd, UnknownPlace
from biddingmoves.webs import Web
from samples import (
    FORK_TEXT, LETTERS, LINE_ROWS, TEN_ROWS, Agree, Posing, Refuse, is_reference_part, is_reference_rows, odd_values,
    random_rows, random_webs,
)

END = ("z", (1, 2))
LINE_TEXT = "a: b x\nb: a y\nx = 0/1\ny = 1/1"
NUMERAL = "(0|[1-9][0-9]*)"
LINE_FORM = re.compile(f"[a-z] = {NUMERAL}/{NUMERAL}|[a-z]:( [a-z])+")


def rows_in(text):
    """Written apart from the program: the rows that a text tells, None if a line has no right form."""
    rows = []
    for line in text.split("\n"):
        if not LINE_FORM.fullmatch(line):
            return None
        if "=" in line:
            n, d = line[4:].split("/")
            rows.append((line[0], (int(n), int(d))))
        else:
            rows.append((line[0], tuple(line[3:].split(" "))))
    return tuple(rows)


class WebCase(unittest.TestCase):
    def check_wrong_rows(self, rows):
        for made in (lambda: Web(rows), lambda: Web(rows=rows)):
            with self.assertRaises(InvalidRows) as caught:
                made()
            self.assertIs(caught.exception.given, rows)

    def check_wrong_text(self, text):
        for made in (lambda: Web.read(text), lambda: Web.read(text=text)):
            with self.assertRaises(InvalidText) as caught:
                made()
            self.assertIs(caught.exception.given, text)

    def check_wrong_part(self, part):
        self.check_wrong_rows((("a", part),))
        self.check_wrong_rows((("a", ("z",)), ("z", part)))


class TestOrdinary(WebCase):
    def test_examples_of_the_document(self):
        line = Web(LINE_ROWS)
        fork = Web.read(FORK_TEXT)
        self.assertEqual(line.text, LINE_TEXT)
        self.assertEqual(line.places, ("a", "b", "x", "y"))
        self.assertEqual(line.ends, ("x", "y"))
        self.assertEqual(fork.arrows("c"), ("a", "y"))
        self.assertEqual(fork.number("y"), (1, 1))

    def test_one_place_alone(self):
        for part in ((0, 1), (1, 1), (3, 7)):
            web = Web((("m", part),))
            self.assertEqual((web.places, web.ends, web.arrows("m"), web.number("m")), (("m",), ("m",), (), part))
            self.assertEqual(web.text, f"m = {part[0]}/{part[1]}")
            self.assertEqual(Web.read(web.text).rows, web.rows)

    def test_webs_of_each_size(self):
        for many in range(1, 11):
            rows = TEN_ROWS[-many:]
            web = Web(rows)
            self.assertEqual(web.rows, rows)
            self.assertEqual(web.places, tuple("abcdefghij"[-many:]))
            self.assertEqual(web.ends, ("j",))
            self.assertEqual(Web.read(web.text).rows, rows)
        all_arrows = tuple((place, tuple("abcdefghij")) for place in "abcdefghi") + (("j", (0, 1)),)
        self.assertEqual(Web(all_arrows).arrows("d"), tuple("abcdefghij"))

    def test_random_webs(self):
        for web in random_webs(1, 300):
            told = dict(web.rows)
            self.assertEqual(web.places, tuple(told))
            self.assertEqual(web.ends, tuple(place for place in told if is_reference_part(told[place])))
            self.assertEqual(rows_in(web.text), web.rows)
            self.assertEqual(str(web), web.text)
            again = Web.read(web.text)
            self.assertEqual(again.rows, web.rows)
            self.assertTrue(again == web)
            for place, what in told.items():
                self.assertEqual(web.arrows(place), () if place in web.ends else what)
                self.assertEqual(web.arrows(place=place), web.arrows(place))
                if place in web.ends:
                    self.assertEqual(web.number(place), what)
                    self.assertEqual(web.number(place=place), what)

    def test_kinds_of_what_is_told(self):
        web = Web(LINE_ROWS)
        for told in (web.rows, web.places, web.ends, web.arrows("a"), web.arrows("x"), web.number("x")):
            self.assertIs(type(told), tuple)
        self.assertIs(type(web.text), str)
        self.assertTrue(web)

    def test_arrows_and_number_with_wrong_places(self):
        web = Web(LINE_ROWS)
        for place in odd_values() + [letter for letter in LETTERS if letter not in "abxy"]:
            for ask in (web.arrows, web.number):
                with self.assertRaises(UnknownPlace) as caught:
                    ask(place)
                self.assertIs(caught.exception.given, place)
        for place in "ab":
            self.assertRaises(NotAnEnd, web.number, place)

    def test_it_cannot_be_assigned_to(self):
        web = Web(LINE_ROWS)
        for name in ("rows", "text", "places", "ends"):
            with self.assertRaises(AttributeError):
                setattr(web, name, ())
        self.assertEqual(web.rows, LINE_ROWS)

    def test_interface(self):
        self.assertEqual(webs.Web.__module__, "biddingmoves.webs")
        names = "arrows number with_arrow without_arrow with_number turned read __eq__ __str__ rows text places ends"
        for name in names.split():
            self.assertIn(name, vars(Web))
        self.assertEqual(list(inspect.signature(Web).parameters), ["rows"])
        self.assertEqual(list(inspect.signature(Web.read).parameters), ["text"])


class TestEquality(WebCase):
    def test_equal_just_if_the_rows_are(self):
        some = random_webs(2, 60)
        for one in some:
            for other in some:
                self.assertIs(one == other, one.rows == other.rows)
                self.assertIs(one != other, one.rows != other.rows)
        self.assertTrue(Web(LINE_ROWS) == Web.read(LINE_TEXT))
        self.assertFalse(Web(LINE_ROWS) != Web.read(LINE_TEXT))
        self.assertFalse(Web((("a", (0, 1)),)) == Web((("a", (1, 1)),)))
        self.assertFalse(Web((("a", (0, 1)),)) == Web((("b", (0, 1)),)))

    def test_never_to_values_of_other_classes(self):
        web = Web(LINE_ROWS)
        others = [value for value in odd_values() if type(value) is not Web]
        for other in others + [web.rows, web.text, Agree(), Refuse(), Posing(Web), Web]:
            self.assertIs(web == other, False)
            self.assertIs(web != other, True)


class TestWrongRows(WebCase):
    def test_odd_values(self):
        for value in odd_values():
            self.check_wrong_rows(value)
            self.check_wrong_rows((value,))
            self.check_wrong_rows((value, END))
            self.check_wrong_rows((END, value))
            self.check_wrong_rows(((value, (1, 2)), END, ("a", ("a",))))
            if type(value) is not str or value != "q":
                self.check_wrong_rows(((value, (1, 2)),))
            self.check_wrong_rows((("a", value), END))
            self.check_wrong_rows((("a", (value,)), END))
            self.check_wrong_rows((("a", (value, "z")), END))
            self.check_wrong_rows((("a", ("a", value)), END))
            if type(value) is not int:
                self.check_wrong_part((value, 3))
                self.check_wrong_part((0, value))

    def test_number_of_places(self):
        eleven = tuple((place, (chr(ord(place) + 1),)) for place in "abcdefghij") + (("k", (2, 7)),)
        self.assertEqual(Web(eleven[1:]).rows, eleven[1:])
        self.check_wrong_rows(eleven)
        self.check_wrong_rows(tuple((letter, (0, 1)) for letter in LETTERS))
        self.check_wrong_rows(())

    def test_lists_at_each_depth(self):
        self.check_wrong_rows([("a", ("z",)), END])
        self.check_wrong_rows((["a", ("z",)], END))
        self.check_wrong_rows((("a", ["z"]), END))
        self.check_wrong_rows((("a", ("z",)), ("z", [1, 2])))
        self.check_wrong_rows((("a", (["z"],)), END))
        self.check_wrong_rows((("a", "z"), END))
        self.check_wrong_rows({"a": ("z",), "z": (1, 2)})

    def test_pairs_of_another_length(self):
        self.check_wrong_rows((("a",), END))
        self.check_wrong_rows((("a", ("z",), ("z",)), END))
        self.check_wrong_rows(((), END))
        self.check_wrong_rows(("az", END))

    def test_parts(self):
        for part in ((0, 1), (1, 1), (1, 10 ** 12), (10 ** 12 - 1, 10 ** 12), (1, 2), (999, 1000)):
            self.assertEqual(Web((("a", part),)).number("a"), part)
        for n, d in ((1, 10 ** 12 + 1), (10 ** 12, 10 ** 12 + 1), (2, 4), (0, 2), (6, 9), (10 ** 12, 10 ** 12)):
            self.check_wrong_part((n, d))
        for n, d in ((0, 0), (1, 0), (0, -1), (1, -2), (-1, -2), (-1, 1), (-1, 2), (2, 1), (3, 2), (10 ** 39, 7)):
            self.check_wrong_part((n, d))

    def test_true_is_no_integer(self):
        for part in ((True, 1), (False, 1), (0, True), (1, True), (True, 2), (True, True)):
            self.check_wrong_part(part)

    def test_arrows(self):
        self.assertEqual(Web((("a", ("a", "z")), END)).arrows("a"), ("a", "z"))
        for arrows in ((), ("z", "a"), ("z", "z"), ("a", "a", "z"), ("b",), ("b", "z"), ("a", "zz"), ("Z",), ("",)):
            self.check_wrong_rows((("a", arrows), END))
        self.check_wrong_rows((("a", ("z", 1)), END))
        self.check_wrong_rows((("a", (0, "z")), END))

    def test_places(self):
        for place in ("A", "aa", "", " ", "1", "-", "`", "{", b"a", 0, None, True, ("a",)):
            self.check_wrong_rows(((place, (0, 1)),))
            self.check_wrong_rows(((place, ("z",)), END))
        self.check_wrong_rows((("b", (0, 1)), ("a", (0, 1))))
        self.check_wrong_rows((("a", (0, 1)), ("a", (0, 1))))
        self.check_wrong_rows((("a", (0, 1)), ("c", ("a",)), ("b", ("a",))))

    def test_places_that_lead_to_no_end(self):
        self.check_wrong_rows((("a", ("a",)),))
        self.check_wrong_rows((("a", ("a",)), END))
        self.check_wrong_rows((("a", ("b",)), ("b", ("a",)), END))
        self.check_wrong_rows((("a", ("b", "z")), ("b", ("b",)), END))
        self.check_wrong_rows((("a", ("z",)), ("b", ("c",)), ("c", ("d",)), ("d", ("b", "c")), END))
        back = tuple((place, (chr(ord(place) - 1),)) for place in "bcdefghij")
        self.assertEqual(Web((("a", (0, 1)),) + back).ends, ("a",))
        self.check_wrong_rows((("a", ("j",)),) + back)

    def test_random_rows(self):
        chance = random.Random(3)
        found = {True: 0, False: 0}
        for _ in range(3000):
            rows = random_rows(chance)
            right = is_reference_rows(rows)
            found[right] += 1
            if right:
                self.assertEqual(Web(rows).rows, rows)
            else:
                self.check_wrong_rows(rows)
        self.assertGreater(min(found.values()), 300)


class TestWrongTexts(WebCase):
    def test_no_strings(self):
        for value in odd_values() + [LINE_ROWS, LINE_TEXT.encode(), list(LINE_TEXT), Web(LINE_ROWS)]:
            self.check_wrong_text(value)

    def test_spaces_and_blank_lines(self):
        self.assertEqual(Web.read("a: b z\nb: a z\nz = 1/2").text, "a: b z\nb: a z\nz = 1/2")
        for text in (
            "", "\n", "z = 1/2\n", "\nz = 1/2", "a: z\n\nz = 1/2", "a: z\nz = 1/2\n\n", " z = 1/2", "z = 1/2 ",
            "z= 1/2", "z =1/2", "z=1/2", "z  = 1/2", "z =  1/2", "z = 1 /2", "z = 1/ 2", "a : z\nz = 1/2",
            "a:z\nz = 1/2", "a:  z\nz = 1/2", "a: z \nz = 1/2", "a: a  z\nz = 1/2", "a:\nz = 1/2", "a: \nz = 1/2",
            "a: az\nz = 1/2", "a: a,z\nz = 1/2", "a: z; z = 1/2", "a: z / z = 1/2", "a: z z = 1/2",
        ):
            self.check_wrong_text(text)

    def test_numbers(self):
        for number in (
            "01/2", "1/02", "00/1", "0/01", "+1/2", "1/+2", "-0/1", "-1/2", "1/-2", "2/4", "0/2", "3/2", "1/0", "0/0",
            "1", "1/", "/2", "/", "1/2/3", "1//2", "1_0/11", "0x1/2", "1.0/2", "1/2.", "a/b", "1/1000000000001",
            "1000000000000/1000000000000", "(1, 2)", "1:2", "1" * 3000 + "/7", "1" * 5000 + "/7", "1/" + "7" * 5000, "",
        ):
            self.check_wrong_text(f"z = {number}")
            self.check_wrong_text(f"a: z\nz = {number}")
        for number in ("0/1", "1/1", "1/1000000000000", "999999999999/1000000000000", "10/11"):
            self.assertEqual(Web.read(f"z = {number}").text, f"z = {number}")

    def test_lines_in_a_wrong_order_or_form(self):
        for text in (
            "z = 1/2\na: z", "z = 1/2\nz = 1/2", "a: z", "a: a", "a: b\nz = 1/2", "a: z a\nz = 1/2",
            "a: z z\nz = 1/2", "A: z\nz = 1/2", "a: Z\nz = 1/2", "Z = 1/2", "zz = 1/2", "aa: z\nz = 1/2", "1 = 1/2",
            ": z\nz = 1/2", " = 1/2", "a", "a:", "a: z\nz", "a = z\nz = 1/2", "a: 1/2", "z == 1/2",
            "a: b\nb: a\nz = 1/2", "\n".join(f"{letter} = 0/1" for letter in LETTERS[:11]),
        ):
            self.check_wrong_text(text)
        ten = "\n".join(f"{letter} = 0/1" for letter in LETTERS[:10])
        self.assertEqual(Web.read(ten).text, ten)

    def test_each_text_that_differs_in_one_sign(self):
        signs = "\n :=/+-_.0129abxyzA"
        for text in (LINE_TEXT, "a: a z\nz = 10/11", "m = 0/1"):
            near = {text[:at] + sign + text[at:] for at in range(len(text) + 1) for sign in signs}
            near |= {text[:at] + sign + text[at + 1:] for at in range(len(text)) for sign in signs}
            near |= {text[:at] + text[at + 1:] for at in range(len(text))}
            for other in sorted(near):
                rows = rows_in(other)
                if rows is not None and is_reference_rows(rows):
                    self.assertEqual(Web.read(other).rows, rows)
                    self.assertEqual(Web.read(other).text, other)
                else:
                    self.check_wrong_text(other)


if __name__ == "__main__":
    unittest.main()
