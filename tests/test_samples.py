"""The tests reckon by hand-told ways; these hold the ways themselves to known answers."""

import unittest

from tests.samples import HUNDRED, SMALL, TINY, number_at, told_product, told_sum, told_value, trimmed


class Samples(unittest.TestCase):
    def test_the_ways(self):
        self.assertEqual([number_at([5, 6], power) for power in range(3)], [5, 6, 0])
        self.assertEqual(trimmed([0, 1, 0, 0]), [0, 1])
        self.assertEqual(told_sum([1, 2], [3, -2]), [4])
        self.assertEqual(told_product([1, 1], [1, 1]), [1, 2, 1])
        self.assertEqual(told_value([5, -1, 0, 3], 2), 27)

    def test_the_polynomials(self):
        self.assertEqual((len(SMALL), len(TINY), len(HUNDRED)), (1 + 4 + 20 + 100, 1 + 2 + 6 + 18, 100))
        self.assertTrue(all(row == trimmed(row) for row in SMALL + TINY))


if __name__ == "__main__":
    unittest.main()
