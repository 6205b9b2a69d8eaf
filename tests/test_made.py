"""Point [2]: the polynomial of a list or a tuple of whole numbers."""

import unittest

from polyarith.errors import NoNumber
from polyarith.rows import made
from tests.samples import BIG, HUNDRED, NO_NUMBERS, ROWS


class Made(unittest.TestCase):
    def test_a_list_and_a_tuple(self):
        for kind in (list, tuple):
            told = made(kind([5, -1, 0, 3]))
            self.assertEqual(told, [5, -1, 0, 3])
            self.assertIs(type(told), list)

    def test_what_has_no_noughts_at_the_end_stays_as_it_is(self):
        for row in ROWS:
            self.assertEqual(made(row), row)
            self.assertEqual(made(tuple(row)), row)

    def test_noughts_at_the_end_go(self):
        for row in ROWS:
            for many in (1, 2, 7):
                self.assertEqual(made(row + [0] * many), row)
                self.assertEqual(made(tuple(row + [0] * many)), row)

    def test_noughts_elsewhere_stay(self):
        self.assertEqual(made([0, 0, 4, 0, 0, -4, 0, 0]), [0, 0, 4, 0, 0, -4])

    def test_noughts_alone_and_no_numbers(self):
        for numbers in ([], (), [0], (0,), [0, 0, 0], (0, 0), [0] * 100):
            told = made(numbers)
            self.assertEqual(told, [])
            self.assertIs(type(told), list)

    def test_great_numbers_and_a_hundred_of_them(self):
        self.assertEqual(made([BIG, -BIG, 0]), [BIG, -BIG])
        self.assertEqual(made(HUNDRED), HUNDRED)
        self.assertEqual(made([BIG] * 100), [BIG] * 100)


class NoWholeNumber(unittest.TestCase):
    def refused(self, numbers):
        for kind in (list, tuple):
            with self.assertRaises(NoNumber, msg=repr(numbers)):
                made(kind(numbers))

    def test_alone(self):
        for thing in NO_NUMBERS:
            self.refused([thing])

    def test_at_every_place(self):
        for thing in NO_NUMBERS:
            for place in range(5):
                self.refused([1, 2, 3, 4][:place] + [thing] + [1, 2, 3, 4][place:])

    def test_among_and_behind_noughts(self):
        for thing in NO_NUMBERS:
            self.refused([0, thing, 0])
            self.refused([thing, 0, 0])
            self.refused([0, 0, thing])
            self.refused([1, 0, 0, thing])
            self.refused([1, 0, thing, 0])
            self.refused([1, thing, 0, 0])

    def test_several_at_once(self):
        self.refused([True, False, None])
        self.refused([0, False, False])

    def test_at_the_last_of_a_hundred_places(self):
        for thing in NO_NUMBERS:
            self.refused([0] * 99 + [thing])
            self.refused([7] * 99 + [thing])


if __name__ == "__main__":
    unittest.main()
