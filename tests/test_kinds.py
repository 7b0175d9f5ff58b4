import unittest
from fractions import Fraction

from biddingmoves.kinds import difference, is_below, is_fraction, lowest
from cases import WebCase, pair
from samples import odd_values


class TestFractions(WebCase):
    def setUp(self):
        self.numbers = [Fraction(n, d) for d in (1, 2, 3, 4, 6, 10 ** 12, 10 ** 45 + 1) for n in range(-7, 8)]

    def test_what_is_one(self):
        for number in self.numbers:
            self.assertIs(is_fraction(pair(number)), True)
            n, d = pair(number)
            for wrong in ((n, -d), (-n, -d), (2 * n, 2 * d), [n, d], (n, d, 1), (n,), (str(n), d), (n, None), (n, 0)):
                self.assertIs(is_fraction(wrong), False)
        right = [value for value in odd_values() if is_fraction(value)]
        self.assertEqual(right, [(3, 2), (-1, 2), (1, 10 ** 12 + 1)])

    def test_in_lowest_terms(self):
        for number in self.numbers:
            for times in (1, 2, 15, 10 ** 20):
                told = lowest(number.numerator * times, number.denominator * times)
                self.assertEqual(told, pair(number))
                self.check_fraction(told)

    def test_below_and_difference(self):
        for one in self.numbers:
            for other in self.numbers:
                self.assertIs(is_below(pair(one), pair(other)), one < other)
                self.assertEqual(difference(pair(one), pair(other)), pair(one - other))
                self.check_fraction(difference(pair(one), pair(other)))


if __name__ == "__main__":
    unittest.main()
