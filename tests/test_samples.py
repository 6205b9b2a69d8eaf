"""The tests reckon by hand-told ways; these hold the ways themselves to known answers."""

import unittest

from fractions import Fraction

from tests.samples import (
    BIG, HUNDRED, SMALL, TINY, dense_row, number_at, told_common, told_division, told_product, told_raised,
    told_simple, told_sum, told_value, trimmed,
)


class Samples(unittest.TestCase):
    def test_the_ways(self):
        self.assertEqual([number_at([5, 6], power) for power in range(3)], [5, 6, 0])
        self.assertEqual(trimmed([0, 1, 0, 0]), [0, 1])
        self.assertEqual(told_sum([1, 2], [3, -2]), [4])
        self.assertEqual(told_product([1, 1], [1, 1]), [1, 2, 1])
        self.assertEqual(told_value([5, -1, 0, 3], 2), 27)

    def test_the_ways_of_division(self):
        half = Fraction(1, 2)
        self.assertEqual(told_division([1, 0, 1], [1, 2]), ([-half / 2, half], [Fraction(5, 4)]))
        self.assertEqual(told_division([-1, 0, 1], [1, 1]), ([-1, 1], []))
        self.assertEqual(told_division([1, 1], [0, 0, 3]), ([], [1, 1]))
        self.assertEqual(told_division([3, 5], [-2]), ([-3 * half, -5 * half], []))
        self.assertEqual(told_division([], [7]), ([], []))
        self.assertEqual(told_simple([half, Fraction(-3, 4)]), [-2, 3])
        self.assertEqual((told_simple([]), told_simple([-6]), told_simple([4, 0, 6])), ([], [1], [2, 0, 3]))
        self.assertEqual(told_common([-1, 0, 1], [2, -4, 2]), [-1, 1])
        self.assertEqual(told_common([2, 2], []), [1, 1])
        self.assertEqual(told_common([], [0, -4]), [0, 1])
        self.assertEqual(told_common([4], [6]), [1])
        self.assertEqual(told_raised([1, 1], 3), [1, 3, 3, 1])
        self.assertEqual(told_raised([1, 1], 0), [1])

    def test_the_polynomials(self):
        self.assertTrue(all(abs(number) >= BIG for number in dense_row(100, 1)))
        self.assertEqual(len(set(dense_row(100, 1) + dense_row(100, 2))), 200)
        self.assertEqual((len(SMALL), len(TINY), len(HUNDRED)), (1 + 4 + 20 + 100, 1 + 2 + 6 + 18, 100))
        self.assertTrue(all(row == trimmed(row) for row in SMALL + TINY))


if __name__ == "__main__":
    unittest.main()
