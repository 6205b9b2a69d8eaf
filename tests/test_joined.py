"""Point [12]: the product of a number and of parts, each so many times."""

import unittest
from itertools import permutations

from polyarith.errors import NoPower
from polyarith.parts import joined, parts
from polyarith.rows import value
from tests.samples import BIG, HUNDRED, ROWS, SMALL, TINY, dense_row, told_product, told_raised, told_value

PLACES = (-10, -2, -1, 0, 1, 2, 3, BIG)


class Joined(unittest.TestCase):
    def test_ordinary(self):
        self.assertEqual(joined(3, [([1, 1], 2)]), [3, 6, 3])
        self.assertEqual(joined(4, [([-1, 1], 1), ([0, 1], 2)]), [0, 0, -4, 4])
        self.assertEqual(joined(-1, [([1, 2], 1), ([0, 1], 3)]), [0, 0, 0, -1, -2])

    def test_no_rows(self):
        for number in (1, -1, 7, BIG, -BIG):
            self.assertEqual(joined(number, []), [number])
        self.assertEqual(joined(0, []), [])

    def test_of_small_ones(self):
        for ones in TINY:
            for others in TINY:
                for number in (1, -6):
                    told = told_product([number], told_product(told_raised(ones, 2), others))
                    self.assertEqual(joined(number, [(ones, 2), (others, 1)]), told)
                    self.assertEqual(joined(number, [(others, 1), (ones, 2)]), told)

    def test_whatever_polynomials_these_are(self):
        self.assertEqual(joined(2, [([4, 6], 1), ([-3], 2), ([1, -1], 1)]), [72, 36, -108])
        self.assertEqual(joined(1, [([1, 1], 2), ([1, 1], 2)]), [1, 4, 6, 4, 1])
        self.assertEqual(joined(1, [([1, 1], 3), ([1, 2, 1], 1)]), [1, 5, 10, 10, 5, 1])
        same = [0, -2]
        self.assertEqual(joined(1, [(same, 1), (same, 2)]), [0, 0, 0, -8])

    def test_counts_of_0(self):
        for part in ROWS:
            for number in (1, -5, BIG):
                self.assertEqual(joined(number, [(part, 0)]), [number])
                self.assertEqual(joined(number, [(part, 0), ([1, 1], 1), (part, 0)]), [number, number])
        self.assertEqual(joined(0, [([1, 1], 0)]), [])

    def test_nought_as_a_number(self):
        for row in SMALL:
            for many in (0, 1, 3):
                self.assertEqual(joined(0, [(row, many), ([1, 1], 2)]), [])

    def test_nought_as_a_part(self):
        for number in (1, -6, BIG, 0):
            for many in (1, 2, 100):
                for row in TINY:
                    self.assertEqual(joined(number, [([], many), (row, 2)]), [])
                    self.assertEqual(joined(number, [(row, 2), ([], many)]), [])

    def test_nought_none_of_a_time_is_one(self):
        self.assertEqual(joined(1, [([], 0)]), [1])
        self.assertEqual(joined(-4, [([], 0), ([1, 1], 1)]), [-4, -4])
        self.assertEqual(joined(0, [([], 0)]), [])
        self.assertEqual(joined(2, [([], 0), ([], 1)]), [])

    def test_nought_with_great_counts_beside_it(self):
        many = 10 ** 30
        self.assertEqual(joined(0, [([1, 1], many)]), [])
        self.assertEqual(joined(3, [([1, 1], many), ([], 1)]), [])
        self.assertEqual(joined(3, [([], many), ([2, 1], many)]), [])

    def test_great_counts_of_1(self):
        many = 10 ** 30
        self.assertEqual(joined(3, [([1], many), ([-1], many + 1), ([0, 1], 2)]), [0, 0, -3])

    def test_to_a_hundred_numbers(self):
        self.assertEqual(joined(-1, [(HUNDRED, 1)]), [-number for number in HUNDRED])
        self.assertEqual(joined(1, [([0, 1], 99)]), [0] * 99 + [1])
        told = told_product(told_raised([1, 1], 50), told_raised([-1, 2], 49))
        self.assertEqual(joined(BIG, [([1, 1], 50), ([-1, 2], 49)]), [BIG * number for number in told])
        self.assertEqual(joined(1, [(dense_row(50, 1), 1), (dense_row(51, 2), 1)]),
                         told_product(dense_row(50, 1), dense_row(51, 2)))


class JoinedParts(unittest.TestCase):
    def polynomials(self):
        yield from [row for row in SMALL if row]
        for ones in TINY:
            for others in ([1, 1], [-2, 4], [0, -3]):
                if ones:
                    yield told_product(told_raised(ones, 2), told_raised(others, 3))
        yield [BIG, 0, -4 * BIG]
        yield dense_row(13, 1)

    def test_what_parts_tells_is_joined_to_the_polynomial(self):
        for row in self.polynomials():
            self.assertEqual(joined(*parts(row)), row)

    def test_the_values_at_places_agree(self):
        for row in self.polynomials():
            number, rows = parts(row)
            for place in PLACES:
                told = number
                for part, many in rows:
                    told *= value(part, place) ** many
                self.assertEqual(value(row, place), told)
                self.assertEqual(told_value(row, place), told)


class NoCount(unittest.TestCase):
    def test_a_count_below_nought(self):
        for row in TINY + [[7], HUNDRED]:
            for many in (-1, -2, -BIG, -(10 ** 5000)):
                self.assertRaises(NoPower, joined, 1, [(row, many)])

    def test_where_the_number_is_nought(self):
        for row in TINY:
            self.assertRaises(NoPower, joined, 0, [(row, -1)])

    def test_ahead_of_and_behind_other_rows(self):
        others = [([1, 1], 2), ([], 1), ([], 0), ([0, 1], 10 ** 30)]
        for number in (0, 1, -5):
            for row in ([1, 1], [], [1], [2]):
                for rows in permutations(others + [(row, -1)]):
                    self.assertRaises(NoPower, joined, number, list(rows))
            self.assertRaises(NoPower, joined, number, [([1, 1], -1), ([1, 1], 1)])
            self.assertRaises(NoPower, joined, number, [([1, 1], 1), ([1, 1], -1)])


if __name__ == "__main__":
    unittest.main()
