"""Point [3]: sum, difference, product, so many times, so many like ones."""

import unittest

from polyarith.errors import NoPower
from polyarith.rows import minus, plus, raised, scaled, times
from tests.samples import BIG, HUNDRED, ROWS, SMALL, TINY, told_product, told_sum


class SumAndDifference(unittest.TestCase):
    def test_ordinary(self):
        self.assertEqual(plus([1, 2, 3], [10, 20]), [11, 22, 3])
        self.assertEqual(plus([10, 20], [1, 2, 3]), [11, 22, 3])
        self.assertEqual(minus([1, 2, 3], [10, 20]), [-9, -18, 3])
        self.assertEqual(minus([10, 20], [1, 2, 3]), [9, 18, -3])

    def test_of_all_small_ones(self):
        for ones in SMALL:
            for others in SMALL:
                self.assertEqual(plus(ones, others), told_sum(ones, others))
                self.assertEqual(minus(ones, others), told_sum(ones, [-number for number in others]))

    def test_no_noughts_at_the_end_where_numbers_cancel(self):
        for row in ROWS:
            less = [-number for number in row]
            self.assertEqual(plus(row, less), [])
            self.assertEqual(minus(row, list(row)), [])
        self.assertEqual(plus([1, 2, 3, 4], [1, 0, -3, -4]), [2, 2])
        self.assertEqual(plus([0, 0, 5], [7, 0, -5]), [7])
        self.assertEqual(minus([1, 2, 3, 4], [1, 0, 3, 4]), [0, 2])
        self.assertEqual(minus([BIG, BIG], [BIG + 1, BIG]), [-1])

    def test_numbers_that_cancel_lower_down_leave_noughts(self):
        self.assertEqual(plus([1, 2, 3], [-1, -2, 3]), [0, 0, 6])
        self.assertEqual(minus([1, 2, 3], [1, 2, -3]), [0, 0, 6])

    def test_nought_on_either_side(self):
        for row in ROWS:
            self.assertEqual(plus(row, []), row)
            self.assertEqual(plus([], row), row)
            self.assertEqual(minus(row, []), row)
            self.assertEqual(minus([], row), [-number for number in row])
        self.assertEqual(plus([], []), [])
        self.assertEqual(minus([], []), [])

    def test_a_hundred_numbers(self):
        self.assertEqual(plus(HUNDRED, HUNDRED), [2 * number for number in HUNDRED])
        self.assertEqual(minus(HUNDRED, [1, -1]), [0, -1] + HUNDRED[2:])
        self.assertEqual(minus([BIG] * 100, [0] * 99 + [BIG]), [BIG] * 99)


class Product(unittest.TestCase):
    def test_ordinary(self):
        self.assertEqual(times([1, 1], [-1, 1]), [-1, 0, 1])
        self.assertEqual(times([1, 2, 3], [4, 5]), [4, 13, 22, 15])

    def test_of_all_small_ones(self):
        for ones in SMALL:
            for others in SMALL:
                self.assertEqual(times(ones, others), told_product(ones, others))

    def test_nought_on_either_side(self):
        for row in ROWS:
            self.assertEqual(times(row, []), [])
            self.assertEqual(times([], row), [])

    def test_by_a_number_alone(self):
        for row in ROWS:
            for number in (1, -1, 6, -BIG):
                self.assertEqual(times(row, [number]), [number * each for each in row])
                self.assertEqual(times([number], row), [number * each for each in row])

    def test_great_numbers_and_a_hundred_of_them(self):
        self.assertEqual(times([BIG, -1], [BIG, 1]), [BIG * BIG, 0, -1])
        fifty = HUNDRED[:50]
        self.assertEqual(times(fifty, HUNDRED[:51]), told_product(fifty, HUNDRED[:51]))
        self.assertEqual(len(times(fifty, HUNDRED[:51])), 100)
        self.assertEqual(times([1] * 99, [-1, 1]), [-1] + [0] * 98 + [1])


class Scaled(unittest.TestCase):
    def test_by_each_small_number(self):
        for row in ROWS:
            for many in (-3, -1, 1, 2, 10, BIG, -BIG):
                self.assertEqual(scaled(row, many), [many * number for number in row])

    def test_by_nought_it_is_nought(self):
        for row in ROWS:
            self.assertEqual(scaled(row, 0), [])

    def test_nought_stays_nought(self):
        for many in (-BIG, -1, 0, 1, BIG):
            self.assertEqual(scaled([], many), [])


class Raised(unittest.TestCase):
    def test_ordinary(self):
        self.assertEqual(raised([1, 1], 2), [1, 2, 1])
        self.assertEqual(raised([1, 1], 5), [1, 5, 10, 10, 5, 1])
        self.assertEqual(raised([-1, 0, 2], 3), [-1, 0, 6, 0, -12, 0, 8])

    def test_none_of_them_is_one(self):
        for row in ROWS + [[]]:
            self.assertEqual(raised(row, 0), [1])

    def test_one_of_them_is_itself(self):
        for row in ROWS:
            self.assertEqual(raised(row, 1), row)

    def test_is_the_product_again_and_again(self):
        for row in TINY + [[BIG, -1], [-6, 0, 9]]:
            told = [1]
            for many in range(1, 12):
                told = told_product(told, row)
                self.assertEqual(raised(row, many), told)

    def test_nought(self):
        for many in (1, 2, 3, 100, 10 ** 30):
            self.assertEqual(raised([], many), [])

    def test_great_counts_of_a_number_alone(self):
        self.assertEqual(raised([2], 5000), [2 ** 5000])
        self.assertEqual(raised([-3], 3001), [-(3 ** 3001)])
        self.assertEqual(raised([1], 10 ** 30), [1])
        self.assertEqual(raised([-1], 10 ** 30), [1])
        self.assertEqual(raised([-1], 10 ** 30 + 1), [-1])

    def test_to_a_hundred_numbers(self):
        self.assertEqual(raised([0, 1], 99), [0] * 99 + [1])
        told = [1]
        for _ in range(99):
            told = told_sum(told, [0] + told)
        self.assertEqual(raised([1, 1], 99), told)


class NoCount(unittest.TestCase):
    def test_a_count_below_nought(self):
        for row in [[], [1], [-1], [7], [0, 1], [1, 1], HUNDRED]:
            for many in (-1, -2, -100, -BIG, -(10 ** 5000)):
                with self.assertRaises(NoPower):
                    raised(row, many)

    def test_scaled_takes_any_whole_number(self):
        self.assertEqual(scaled([1, -2], -1), [-1, 2])


if __name__ == "__main__":
    unittest.main()
