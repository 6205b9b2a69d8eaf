"""Points [10] and [11]: the parts without squares, and the paper for it that there is no square."""

import unittest
from itertools import combinations, product
from math import gcd

from polyarith.errors import NoParts
from polyarith.parts import no_square, parts
from tests.samples import (
    BIG, SMALL, dense_row, small_rows, told_common, told_product, told_raised, told_sum, trimmed,
)

# None of them is a product of two of power 1 or more, and they are simple.
PRIMES = [[0, 1], [1, 1], [-1, 2], [1, 0, 1], [-2, 0, 3], [-2, 0, 0, 1]]
LONGER = [told_product(ones, others) for ones, others in combinations(small_rows(3, 1), 2)]
NOT_NOUGHT = [row for row in SMALL + LONGER + small_rows(5, 1) if row]


def told_slope(row):
    return trimmed([power * row[power] for power in range(1, len(row))])


def has_square(row):
    return len(told_common(row, told_slope(row))) > 1


def built(number, pairs):
    told = [number]
    for part, many in pairs:
        told = told_product(told, told_raised(part, many))
    return told


class Parts(unittest.TestCase):
    def check(self, row):
        """All that the document says of the pair."""
        told = parts(row)
        self.assertIs(type(told), tuple)
        number, rows = told
        self.assertEqual((type(number), type(rows)), (int, list))
        self.assertNotEqual(number, 0)
        self.assertEqual(built(number, rows), row)
        for pair in rows:
            self.assertEqual([type(each) for each in (pair,) + pair], [tuple, list, int])
        counts = [many for _, many in rows]
        self.assertEqual(counts, sorted(set(counts)))
        self.assertTrue(all(many >= 1 for many in counts))
        for part, _ in rows:
            self.assertGreater(len(part), 1)
            self.assertEqual(gcd(*part), 1)
            self.assertGreater(part[-1], 0)
            self.assertFalse(has_square(part))
        for (one, _), (other, _) in combinations(rows, 2):
            self.assertEqual(told_common(one, other), [1])
        return told

    def test_ordinary(self):
        self.assertEqual(self.check([-1, 0, 1]), (1, [([-1, 0, 1], 1)]))
        self.assertEqual(self.check([1, 2, 1]), (1, [([1, 1], 2)]))
        self.assertEqual(self.check([0, 0, -4, 4]), (4, [([-1, 1], 1), ([0, 1], 2)]))
        self.assertEqual(self.check(built(3, [([1, 0, 1], 1), ([-1, 2], 2)])), (3, [([1, 0, 1], 1), ([-1, 2], 2)]))

    def test_of_many_small_ones(self):
        for row in NOT_NOUGHT:
            self.check(row)

    def test_a_number_alone(self):
        for number in (1, -1, 2, -12, BIG, -BIG):
            self.assertEqual(self.check([number]), (number, []))

    def test_the_power_1(self):
        self.assertEqual(self.check([4, 6]), (2, [([2, 3], 1)]))
        self.assertEqual(self.check([4, -6]), (-2, [([-2, 3], 1)]))
        self.assertEqual(self.check([0, -1]), (-1, [([0, 1], 1)]))

    def test_one_part_so_often(self):
        for part in PRIMES:
            for many in range(1, 1 + 12 // (len(part) - 1)):
                self.assertEqual(self.check(told_raised(part, many)), (1, [(part, many)]))

    def test_x_itself_and_its_powers(self):
        for many in range(1, 13):
            for number in (1, -1, 6, -BIG):
                self.assertEqual(self.check([0] * many + [number]), (number, [([0, 1], many)]))

    def test_several_counts_also_with_some_left_out(self):
        for counts in ((1, 2), (1, 3), (2, 3), (2, 4), (1, 4), (3, 5), (1, 2, 3), (2, 4, 6), (1, 5), (1, 11), (3, 9)):
            for chosen in ([[0, 1], [1, 1], [-1, 2]], [[3, 5], [-2, 1], [0, 1]]):
                pairs = list(zip(chosen, counts))
                for number in (1, -1, 4, -9):
                    self.assertEqual(self.check(built(number, pairs)), (number, pairs))

    def test_all_counts_of_some_parts(self):
        for counts in product(range(4), repeat=3):
            pairs = list(zip([[1, 1], [1, 0, 1], [-1, 2]], counts))
            row = built(-6, pairs)
            if len(row) <= 13:
                expected = []
                for many in range(1, 4):
                    part = built(1, [(each, 1) for each, count in pairs if count == many])
                    if len(part) > 1:
                        expected.append((part, many))
                self.assertEqual(self.check(row), (-6, expected))

    def test_parts_of_one_count_stand_together(self):
        self.assertEqual(self.check(built(1, [([0, 1], 2), ([1, 1], 2), ([1, 0, 1], 1)])),
                         (1, [([1, 0, 1], 1), ([0, 1, 1], 2)]))
        self.assertEqual(self.check(built(5, [([0, 1], 3), ([1, 1], 3), ([-2, 0, 3], 3)])),
                         (5, [(built(1, [([0, 1], 1), ([1, 1], 1), ([-2, 0, 3], 1)]), 3)]))

    def test_a_content_and_a_last_number_below_nought(self):
        self.assertEqual(self.check([6, 0, -6]), (-6, [([-1, 0, 1], 1)]))
        self.assertEqual(self.check([-2, -4, -2]), (-2, [([1, 1], 2)]))
        self.assertEqual(self.check([2, -4, 2]), (2, [([-1, 1], 2)]))
        self.assertEqual(self.check([4, 8, 4]), (4, [([1, 1], 2)]))
        self.assertEqual(self.check([0, 0, 0, -8]), (-8, [([0, 1], 3)]))
        self.assertEqual(self.check([BIG, 0, -4 * BIG]), (-BIG, [([-1, 0, 4], 1)]))

    def test_a_square_of_the_content_is_no_part(self):
        self.assertEqual(self.check([0, 4]), (4, [([0, 1], 1)]))
        self.assertEqual(self.check([36, 72, 36]), (36, [([1, 1], 2)]))

    def test_great_numbers_and_thirteen_of_them(self):
        self.assertEqual(self.check(dense_row(13, 1))[1][0][1], 1)
        pairs = [([BIG, 1], 1), ([-1, 0, BIG], 2), ([BIG + 1, BIG], 7)]
        self.assertEqual(self.check(built(-BIG, pairs)), (-BIG, pairs))
        pairs = [([-1, 2], 4), ([3, BIG], 8)]
        self.assertEqual(self.check(built(6, pairs)), (6, pairs))

    def test_somewhat_more_numbers(self):
        self.assertEqual(self.check(told_raised([1, 1], 30)), (1, [([1, 1], 30)]))

    def test_nought(self):
        self.assertRaises(NoParts, parts, [])


class NoSquare(unittest.TestCase):
    def check(self, row):
        """The paper holds by products."""
        told = no_square(row)
        self.assertEqual([type(each) for each in (told,) + told], [tuple, list, list, int])
        left, right, many = told
        self.assertGreater(many, 0)
        both = told_sum(told_product(left, row), told_product(right, told_slope(row)))
        self.assertEqual(both, [many])
        for answer in (left, right):
            self.assertTrue(not answer or answer[-1] != 0)

    def test_ordinary(self):
        for row in ([-1, 0, 1], [1, 0, 1], [0, 1, 1], [6, 0, -6], [-2, 0, 0, 1], [1] * 7):
            self.check(row)
        for row in ([1, 2, 1], [0, 0, 1], [-2, -4, -2], [0, 0, -4, 4], told_raised([1, 1], 12)):
            self.assertIsNone(no_square(row))

    def test_of_many_small_ones(self):
        for row in NOT_NOUGHT:
            if has_square(row):
                self.assertIsNone(no_square(row))
            else:
                self.check(row)

    def test_nought(self):
        self.assertIsNone(no_square([]))

    def test_a_number_alone(self):
        for number in (1, -1, 4, -12, BIG, -BIG):
            self.check([number])

    def test_the_power_1(self):
        for row in ([0, 1], [0, -1], [4, 6], [-4, -6], [BIG, -BIG]):
            self.check(row)

    def test_a_square_of_the_content_is_none(self):
        for row in ([0, 4], [4, 8], [-9, 0, 9]):
            self.check(row)

    def test_a_square_among_others(self):
        for part in PRIMES:
            for other in PRIMES:
                square = told_product(told_product(part, part), told_product(other, [-2]))
                self.assertIsNone(no_square(square))
                if part != other:
                    self.check(told_product(told_product(part, other), [-2]))

    def test_great_numbers_and_thirteen_of_them(self):
        self.check(dense_row(13, 1))
        self.check(dense_row(12, 2))
        self.assertIsNone(no_square(told_raised(dense_row(7, 1), 2)))
        self.assertIsNone(no_square(told_product(told_raised([BIG, 3], 2), dense_row(11, 1))))


if __name__ == "__main__":
    unittest.main()
