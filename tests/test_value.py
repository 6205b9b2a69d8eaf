"""Point [4]: what a polynomial comes to where its letter stands for a whole number."""

import unittest

from polyarith.rows import value
from tests.samples import BIG, HUNDRED, ROWS, told_value


class Value(unittest.TestCase):
    def test_ordinary(self):
        self.assertEqual(value([5, -1, 0, 3], 2), 27)
        self.assertEqual(value([5, -1, 0, 3], 10), 2995)

    def test_at_many_places(self):
        for row in ROWS:
            for place in (-12, -3, -2, -1, 0, 1, 2, 3, 10, BIG, -BIG):
                self.assertEqual(value(row, place), told_value(row, place))

    def test_of_nought(self):
        for place in (-BIG, -1, 0, 1, BIG):
            told = value([], place)
            self.assertEqual(told, 0)
            self.assertIs(type(told), int)

    def test_of_a_number_alone(self):
        for place in (-BIG, -1, 0, 1, BIG):
            self.assertEqual(value([-7], place), -7)

    def test_at_nought_it_is_the_number_of_the_power_0(self):
        for row in ROWS:
            self.assertEqual(value(row, 0), row[0] if row else 0)

    def test_below_nought(self):
        self.assertEqual(value([0, 1], -5), -5)
        self.assertEqual(value([0, 0, 1], -5), 25)
        self.assertEqual(value([1, 1, 1, 1], -2), -5)
        self.assertEqual(value([3, 0, -4], -10), -397)

    def test_of_a_hundred_numbers(self):
        self.assertEqual(value([1] * 100, 2), 2 ** 100 - 1)
        self.assertEqual(value(HUNDRED, -1), 5050)
        self.assertEqual(value([BIG] * 100, 1), 100 * BIG)


if __name__ == "__main__":
    unittest.main()
