"""Point [5]: slope, and a polynomial in the place of the letter."""

import unittest

from polyarith.rows import put_in, slope
from tests.samples import BIG, HUNDRED, ROWS, SMALL, TINY, told_product, told_sum, told_value, trimmed


class Slope(unittest.TestCase):
    def test_ordinary(self):
        self.assertEqual(slope([5, -1, 0, 3]), [-1, 0, 9])
        self.assertEqual(slope([5, 7]), [7])
        self.assertEqual(slope([0, 0, 0, 0, 2]), [0, 0, 0, 8])

    def test_of_nought_and_of_a_number_alone(self):
        for row in ([], [1], [-5], [BIG]):
            self.assertEqual(slope(row), [])

    def test_of_a_hundred_numbers(self):
        self.assertEqual(slope([1] * 100), list(range(1, 100)))
        self.assertEqual(slope([BIG] * 100), [power * BIG for power in range(1, 100)])

    def test_of_sums_and_products(self):
        for ones in SMALL:
            self.assertEqual(slope(ones), trimmed([power * ones[power] for power in range(1, len(ones))]))
            for others in TINY:
                self.assertEqual(slope(told_sum(ones, others)), told_sum(slope(ones), slope(others)))
                both = told_sum(told_product(slope(ones), others), told_product(ones, slope(others)))
                self.assertEqual(slope(told_product(ones, others)), both)


def told_put_in(row, other):
    told = []
    power = [1]
    for number in row:
        told = told_sum(told, told_product([number] if number else [], power))
        power = told_product(power, other)
    return told


class PutIn(unittest.TestCase):
    def test_ordinary(self):
        self.assertEqual(put_in([1, 2, 3], [1, 1]), [6, 8, 3])
        self.assertEqual(put_in([0, 0, 1], [-1, 0, 1]), [1, 0, -2, 0, 1])
        self.assertEqual(put_in([5, -1, 0, 3], [0, 0, 2]), [5, 0, -2, 0, 0, 0, 24])

    def test_of_all_small_ones(self):
        for row in SMALL:
            for other in SMALL:
                self.assertEqual(put_in(row, other), told_put_in(row, other))

    def test_of_nought(self):
        for other in ROWS:
            self.assertEqual(put_in([], other), [])

    def test_of_a_number_alone(self):
        for other in ROWS:
            for number in (1, -4, BIG):
                self.assertEqual(put_in([number], other), [number])

    def test_nought_in_the_place_of_the_letter(self):
        for row in ROWS:
            self.assertEqual(put_in(row, []), trimmed(row[:1]))

    def test_a_number_alone_in_the_place_of_the_letter(self):
        for row in ROWS:
            for number in (1, -1, 2, -10, BIG):
                self.assertEqual(put_in(row, [number]), trimmed([told_value(row, number)]))

    def test_nought_where_the_number_is_a_place_of_nought(self):
        self.assertEqual(put_in([-2, 1], [2]), [])
        self.assertEqual(put_in([6, -5, 1], [3]), [])
        self.assertEqual(put_in([0, 0, 1], []), [])

    def test_the_letter_itself(self):
        for row in ROWS:
            self.assertEqual(put_in(row, [0, 1]), row)
            self.assertEqual(put_in([0, 1], row), row)

    def test_of_a_hundred_numbers(self):
        turned = [number * (-1) ** power for power, number in enumerate(HUNDRED)]
        self.assertEqual(put_in(HUNDRED, [0, -1]), turned)
        self.assertEqual(put_in([0] * 33 + [1], [0, 0, 0, 1]), [0] * 99 + [1])
        self.assertEqual(put_in([-1, 1], [BIG] * 100), [BIG - 1] + [BIG] * 99)
        self.assertEqual(put_in(put_in(HUNDRED, [1, 1]), [-1, 1]), HUNDRED)


if __name__ == "__main__":
    unittest.main()
