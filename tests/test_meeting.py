"""Point [9]: what two polynomials have in common, and the paper for it."""

import unittest
from itertools import permutations
from math import gcd

from polyarith.division import quotient
from polyarith.errors import NoMeet
from polyarith.meeting import meet
from tests.samples import (
    BIG, SMALL, TINY, dense_row, told_common, told_division, told_product, told_raised, told_simple, told_sum,
)

PRIMES = [[0, 1], [1, 1], [-1, 2], [1, 0, 1], [-2, 0, 3], [1, 1, 1, 1, 1], [BIG, 1], [-1, BIG]]


class MeetChecks(unittest.TestCase):
    def check(self, ones, others):
        """All that the document says of the six things, told by products; what is common is told."""
        told = meet(ones, others)
        self.assertEqual([type(each) for each in (told,) + told], [tuple, list, list, list, list, list, int])
        common, one, other, left, right, many = told
        self.assertEqual(gcd(*common), 1)
        self.assertGreater(common[-1], 0)
        self.assertEqual(told_product(common, one), ones)
        self.assertEqual(told_product(common, other), others)
        self.assertGreater(many, 0)
        both = told_sum(told_product(left, ones), told_product(right, others))
        self.assertEqual(both, [many * number for number in common])
        for answer in told[:5]:
            self.assertTrue(not answer or answer[-1] != 0)
        return common


class Meet(MeetChecks):
    def test_ordinary(self):
        self.assertEqual(self.check([-1, 0, 1], [1, 2, 1]), [1, 1])
        self.assertEqual(self.check([2, -4, 2], [-3, 0, 3]), [-1, 1])
        self.assertEqual(self.check([0, 0, 4], [0, 6]), [0, 1])
        self.assertEqual(self.check([1, 3, 3, 1], [1, 2, 1]), [1, 2, 1])

    def test_of_all_small_ones(self):
        for ones in SMALL:
            for others in SMALL:
                if ones or others:
                    self.assertEqual(self.check(ones, others), told_common(ones, others))

    def test_what_is_known_to_divide_both(self):
        for common in TINY + [[3, -2, 5], [-6, 0, 9], [0, 0, 0, 2], [BIG, -4], dense_row(4, 1)]:
            if common:
                for ones in ([1], [-5], [1, 1], [2, 0, 3], dense_row(3, 2)):
                    for others in ([7], [3, 2], [-1, 0, -2], [0, 1], dense_row(5, 3)):
                        told = self.check(told_product(common, ones), told_product(common, others))
                        self.assertGreater(quotient(told, told_simple(common))[-1], 0)

    def test_every_simple_one_that_divides_both_divides_it(self):
        simple_ones = [row for row in SMALL if row and row == told_simple(row)]
        for ones in SMALL[:40] + [[-1, 0, 0, 0, 1], [0, 2, 2], [0, -1, 0, 1]]:
            for others in ([-1, 0, 1], [0, 4, 4], [0, -3, 0, 3], [6], []):
                if ones or others:
                    told = self.check(ones, others)
                    for row in simple_ones:
                        if all(not told_division(each, row)[1] for each in (ones, others)):
                            self.assertEqual(told_division(told, row)[1], [], (ones, others, row))

    def test_products_of_known_parts(self):
        for third in PRIMES[:4]:
            for first, second in permutations([row for row in PRIMES if row != third], 2):
                ones = told_product(told_product(first, third), [-6])
                others = told_product(told_product(second, third), [10])
                self.assertEqual(self.check(ones, others), third)
        squares = told_product(told_raised([1, 1], 3), told_raised([0, 1], 2))
        other = told_product(told_raised([1, 1], 2), told_raised([0, 1], 5))
        self.assertEqual(self.check(squares, other), told_product([1, 2, 1], [0, 0, 1]))

    def test_the_numbers_alone_do_not_meet(self):
        self.assertEqual(self.check([4, 4], [6, 6, 6]), [1])
        self.assertEqual(self.check([4, 4], [6, 6]), [1, 1])
        self.assertEqual(self.check([-4, -4], [-6, -6]), [1, 1])

    def test_nought_and_another_one(self):
        for row in SMALL + [[BIG, 2 * BIG], [-4, 0, -6], dense_row(13, 1), [0, 0, 0, -8]]:
            if row:
                self.assertEqual(self.check(row, []), told_simple(row))
                self.assertEqual(self.check([], row), told_simple(row))

    def test_both_alike(self):
        for row in SMALL + [[BIG, 2 * BIG], [-4, 0, -6], dense_row(13, 1)]:
            if row:
                less = [-number for number in row]
                self.assertEqual(self.check(row, row), told_simple(row))
                self.assertEqual(self.check(row, list(row)), told_simple(row))
                self.assertEqual(self.check(row, less), told_simple(row))
                self.assertEqual(self.check([3 * number for number in row], less), told_simple(row))

    def test_a_number_alone(self):
        for number in (1, -1, 6, -6, BIG, -BIG):
            for row in SMALL + [[6, 12], [BIG, 0, BIG], dense_row(13, 1)]:
                self.assertEqual(self.check([number], row), [1])
                self.assertEqual(self.check(row, [number]), [1])
            for other in (1, -1, 4, -9, 2 * BIG):
                self.assertEqual(self.check([number], [other]), [1])

    def test_nothing_in_common(self):
        for j, first in enumerate(PRIMES):
            for second in PRIMES[:j]:
                self.assertEqual(self.check(first, second), [1])
                self.assertEqual(self.check(told_raised(second, 3), told_raised(first, 2)), [1])

    def test_one_divides_the_other(self):
        for row in ([1, 1], [-2, 0, 3], [4, 6], [0, 1]):
            longer = told_product(row, [5, 0, -7])
            self.assertEqual(self.check(row, longer), told_simple(row))
            self.assertEqual(self.check(longer, row), told_simple(row))

    def test_thirteen_great_numbers(self):
        self.assertEqual(self.check(dense_row(13, 1), dense_row(13, 2)), [1])
        self.assertEqual(self.check(dense_row(13, 1), dense_row(12, 3)), [1])
        common = dense_row(6, 1)
        told = self.check(told_product(common, dense_row(8, 2)), told_product(common, dense_row(8, 4)))
        self.assertEqual(told, told_simple(common))

    def test_somewhat_more_numbers(self):
        self.assertEqual(self.check(dense_row(20, 1), dense_row(19, 2)), [1])


class TwoNoughts(unittest.TestCase):
    def test_two_noughts(self):
        self.assertRaises(NoMeet, meet, [], [])
        nought = []
        self.assertRaises(NoMeet, meet, nought, nought)


if __name__ == "__main__":
    unittest.main()
