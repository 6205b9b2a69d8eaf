"""Points [7] and [8]: division with a rest, and the quotient."""

import unittest
from math import gcd, lcm

from polyarith.division import divided, quotient
from polyarith.errors import ByNought, NotWhole
from tests.samples import (
    BIG, HUNDRED, ROWS, SMALL, SPECIAL, TINY, dense_row, told_division, told_product, told_raised, told_sum,
)

DIVISORS = [row for row in SMALL if row]


class Divided(unittest.TestCase):
    def check(self, row, by):
        """The sum, the lower power, and that nothing but 1 divides all three."""
        told = divided(row, by)
        self.assertEqual([type(each) for each in (told,) + told], [tuple, int, list, list])
        many, found, rest = told
        self.assertGreater(many, 0)
        self.assertEqual([many * number for number in row], told_sum(told_product(found, by), rest))
        self.assertLess(len(rest), len(by))
        self.assertEqual(gcd(many, *found, *rest), 1)
        for answer in (found, rest):
            self.assertTrue(not answer or answer[-1] != 0)
        return told

    def test_ordinary(self):
        self.assertEqual(divided([1, 0, 1], [1, 2]), (4, [-1, 2], [5]))
        self.assertEqual(divided([-1, 0, 1], [1, 1]), (1, [-1, 1], []))
        self.assertEqual(divided([5, -1, 0, 3], [1, 0, 1]), (1, [0, 3], [5, -4]))
        self.assertEqual(divided([1, 2, 3], [4, 6]), (2, [0, 1], [2]))

    def test_of_all_small_ones(self):
        for row in SMALL:
            for by in DIVISORS:
                many, found, rest = self.check(row, by)
                in_parts = told_division(row, by)
                # The least number that makes whole numbers of all fractions.
                self.assertEqual(many, lcm(*[each.denominator for each in in_parts[0] + in_parts[1]]))
                self.assertEqual(([each * many for each in in_parts[0]], [each * many for each in in_parts[1]]),
                                 (found, rest))

    def test_of_longer_ones(self):
        for row in ([7, 0, -3, 2, 5, 0, 6], [1] * 9, [0, 0, 0, 0, 12], [-4, 6, 0, 0, 10, -15]):
            for by in DIVISORS + [[6, 0, -10, 15], [1, -1, 0, 4], [0, 0, 0, 6]]:
                self.check(row, by)

    def test_m_is_the_least(self):
        # Four by four is more than is needed each time.
        self.assertEqual(divided([0, 0, 4], [0, 4]), (1, [0, 1], []))
        self.assertEqual(divided([0, 0, 6], [0, 4]), (2, [0, 3], []))
        self.assertEqual(divided([1, 2, 4], [1, 4]), (4, [1, 4], [3]))
        self.assertEqual(divided([1, 0, 0, 1], [0, 2]), (2, [0, 0, 1], [2]))
        # What the first step takes more often, the last one gives back, but for what the rest needs.
        self.assertEqual(divided([0, 1, 3], [1, 2]), (4, [-1, 6], [1]))
        self.assertEqual(divided([2, 4, 6], [3, 6]), (6, [1, 6], [9]))
        # The rest alone could be told of fewer, the quotient could not, and so the other way.
        self.assertEqual(divided([2, 1], [0, 2]), (2, [1], [4]))
        self.assertEqual(divided([1, 0, 3], [0, 3]), (1, [0, 1], [1]))

    def test_a_lower_power(self):
        for by in DIVISORS + SPECIAL:
            for row in ROWS:
                if len(row) < len(by):
                    self.assertEqual(divided(row, by), (1, [], row))

    def test_a_lower_power_with_numbers_in_common(self):
        self.assertEqual(divided([4, 6], [0, 0, 2]), (1, [], [4, 6]))
        self.assertEqual(divided([6], [0, 3]), (1, [], [6]))

    def test_nought(self):
        for by in DIVISORS + SPECIAL:
            self.assertEqual(divided([], by), (1, [], []))

    def test_the_same_power(self):
        self.assertEqual(divided([1, 2], [3, 4]), (2, [1], [-1]))
        self.assertEqual(divided([3, 4], [1, 2]), (1, [2], [1]))
        for row in ROWS:
            if row:
                self.assertEqual(divided(row, row), (1, [1], []))
                self.assertEqual(divided(row, [-number for number in row]), (1, [-1], []))

    def test_by_a_number_alone(self):
        self.assertEqual(divided([4, 0, 6], [2]), (1, [2, 0, 3], []))
        self.assertEqual(divided([4, 0, 6], [-2]), (1, [-2, 0, -3], []))
        self.assertEqual(divided([4, 0, 6], [-4]), (2, [-2, 0, -3], []))
        self.assertEqual(divided([1, 2], [6]), (6, [1, 2], []))
        self.assertEqual(divided([7], [-7]), (1, [-1], []))
        self.assertEqual(divided([BIG, 2 * BIG], [-BIG]), (1, [-1, -2], []))
        for row in ROWS:
            for number in (1, -1, 2, -3, 12, BIG, -BIG):
                many = abs(number) // gcd(number, *row)
                self.assertEqual(self.check(row, [number])[0], many)

    def test_last_numbers_below_nought(self):
        self.assertEqual(divided([1, 0, 1], [1, -2]), (4, [-1, -2], [5]))
        self.assertEqual(divided([1, 0, -1], [1, 2]), (4, [1, -2], [3]))
        self.assertEqual(divided([1, 0, -1], [1, -2]), (4, [1, 2], [3]))

    def test_numbers_that_go_with_a_step(self):
        self.assertEqual(divided([1, 0, 0, 0, 1], [0, 0, 1]), (1, [0, 0, 1], [1]))
        self.assertEqual(divided([3, 0, 0, 0, 2], [1, 0, 2]), (2, [-1, 0, 2], [7]))

    def test_great_numbers_and_a_hundred_of_them(self):
        for by in ([1, 1], [-3], dense_row(2, 1), dense_row(50, 2), dense_row(99, 3), dense_row(100, 4), HUNDRED):
            self.check(dense_row(100, 1), by)
            self.check(HUNDRED, by)
            self.check([BIG, -1], by)
            self.check([0] * 99 + [BIG], by)
        self.assertEqual(divided([-1] + [0] * 98 + [1], [-1, 1]), (1, [1] * 99, []))


class Quotient(unittest.TestCase):
    def test_ordinary(self):
        self.assertEqual(quotient([-1, 0, 1], [1, 1]), [-1, 1])
        self.assertEqual(quotient([4, 13, 22, 15], [4, 5]), [1, 2, 3])
        self.assertEqual(quotient([4, 6], [-2]), [-2, -3])
        self.assertEqual(quotient([0, 0, 6], [0, 3]), [0, 2])

    def test_what_divides_wholly(self):
        for row in ROWS:
            for by in DIVISORS:
                self.assertEqual(quotient(told_product(row, by), by), row)

    def test_nought(self):
        for by in DIVISORS + SPECIAL:
            self.assertEqual(quotient([], by), [])

    def test_there_is_none_but_where_the_fractions_are_whole(self):
        for row in SMALL:
            for by in DIVISORS:
                found, rest = told_division(row, by)
                if rest or any(each.denominator != 1 for each in found):
                    self.assertRaises(NotWhole, quotient, row, by)
                else:
                    self.assertEqual(quotient(row, by), found)

    def test_a_rest(self):
        for row, by in (
            ([1, 0, 1], [1, 1]), ([1], [0, 1]), ([1, 1], [0, 0, 1]), ([4, 13, 22, 16], [4, 5]),
            ([2, 2, 2], [2, 2]), ([BIG, 1], [BIG + 1, 1]), ([0, 5, 1], [4, 5, 1]),
        ):
            self.assertRaises(NotWhole, quotient, row, by)

    def test_a_fraction_at_some_place(self):
        for row, by in (
            ([2, 4, 5], [2]), ([2, 5, 4], [2]), ([5, 4, 2], [2]), ([1], [2]), ([-1], [2]), ([3], [-2]),
            ([1, 2, 1], [2, 2]), ([1, 3, 2], [2, 2]), ([1, 5, 6], [1, 3, 0, 1]), ([BIG], [2 * BIG]),
            (told_product([1, 3], [1, 1]), [2, 2]), (told_product([3, 2, 4], [1, 5]), [2, 10]),
            (told_product([4, 2, 3], [1, 5]), [2, 10]),
        ):
            self.assertRaises(NotWhole, quotient, row, by)

    def test_a_greater_power_divides_nothing_but_nought(self):
        for row in DIVISORS:
            self.assertRaises(NotWhole, quotient, row, row + [1])
            self.assertRaises(NotWhole, quotient, row, [0] + row)

    def test_great_numbers_and_a_hundred_of_them(self):
        for length in (1, 2, 50, 99):
            row, by = dense_row(length, 1), dense_row(101 - length, 2)
            whole = told_product(row, by)
            self.assertEqual(len(whole), 100)
            self.assertEqual(quotient(whole, by), row)
            self.assertEqual(quotient(whole, row), by)
            self.assertRaises(NotWhole, quotient, told_sum(whole, [1]), by)
        self.assertEqual(quotient(told_raised([1, 1], 99), told_raised([1, 1], 60)), told_raised([1, 1], 39))


class ByNothing(unittest.TestCase):
    def test_by_nought(self):
        for row in TINY + SPECIAL + [[]]:
            self.assertRaises(ByNought, divided, row, [])

    def test_no_quotient_by_nought(self):
        for row in TINY + SPECIAL + [[]]:
            self.assertRaises(ByNought, quotient, row, [])


if __name__ == "__main__":
    unittest.main()
