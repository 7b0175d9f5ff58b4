import unittest

from biddingmoves import limits


class TestLimits(unittest.TestCase):
    def test_each_constant(self):
        wanted = {"MOST_PLACES": 10, "MOST_MOVES": 60, "MOST_BOTTOM": 1000000000000, "MOST_BITS": 20}
        for name, number in wanted.items():
            with self.subTest(name):
                self.assertIs(type(getattr(limits, name)), int)
                self.assertEqual(getattr(limits, name), number)


if __name__ == "__main__":
    unittest.main()
