"""Point [6]: content and simple."""

import unittest

from polyarith.contents import content, simple
from tests.samples import BIG, HUNDRED, ROWS, SMALL


class Content(unittest.TestCase):
    def test_ordinary(self):
        self.assertEqual(content([4, 6, 10]), 2)
        self.assertEqual(content([9, 0, 27]), 9)
        self.assertEqual(content([2, 3]), 1)
        self.assertEqual(content([6, 10, 15]), 1)

    def test_of_nought(self):
        self.assertEqual(content([]), 0)

    def test_of_a_number_alone(self):
        for number in (1, 2, 12, BIG):
            self.assertEqual(content([number]), number)
            self.assertEqual(content([-number]), number)

    def test_of_numbers_below_nought(self):
        self.assertEqual(content([-4, -6]), 2)
        self.assertEqual(content([4, -6]), 2)
        self.assertEqual(content([-4, 6]), 2)
        self.assertEqual(content([-3, 0, -3]), 3)

    def test_noughts_among_the_numbers(self):
        self.assertEqual(content([0, 0, 5]), 5)
        self.assertEqual(content([0, -5]), 5)
        self.assertEqual(content([0, 8, 0, 0, -12]), 4)

    def test_great_numbers_and_a_hundred_of_them(self):
        self.assertEqual(content([2 * BIG, 0, -3 * BIG]), BIG)
        self.assertEqual(content([BIG * number for number in HUNDRED]), BIG)
        self.assertEqual(content([6] * 99 + [9]), 3)

    def test_is_the_greatest_that_divides_all(self):
        for row in SMALL:
            for many in (1, 6, -6):
                numbers = [many * number for number in row]
                least = min([abs(number) for number in numbers if number], default=0)
                dividing = [by for by in range(1, least + 1) if all(number % by == 0 for number in numbers)]
                self.assertEqual(content(numbers), max(dividing, default=0))


class Simple(unittest.TestCase):
    def test_ordinary(self):
        self.assertEqual(simple([4, 6, 10]), [2, 3, 5])
        self.assertEqual(simple([9, 0, 27]), [1, 0, 3])

    def test_what_is_simple_stays_as_it_is(self):
        for row in ([1], [2, 3], [0, 1], [-5, 0, 3], [6, 10, 15], [BIG, BIG + 1]):
            self.assertEqual(simple(row), row)

    def test_of_nought(self):
        self.assertEqual(simple([]), [])

    def test_of_a_number_alone(self):
        for number in (1, -1, 12, -12, BIG, -BIG):
            self.assertEqual(simple([number]), [1])

    def test_the_last_number_below_nought(self):
        self.assertEqual(simple([1, -1]), [-1, 1])
        self.assertEqual(simple([4, -6]), [-2, 3])
        self.assertEqual(simple([-4, -6]), [2, 3])
        self.assertEqual(simple([4, 0, -6, -8]), [-2, 0, 3, 4])

    def test_only_other_numbers_below_nought(self):
        self.assertEqual(simple([-4, 6]), [-2, 3])
        self.assertEqual(simple([-4, -2, 6]), [-2, -1, 3])

    def test_noughts_among_the_numbers(self):
        self.assertEqual(simple([0, 0, 5]), [0, 0, 1])
        self.assertEqual(simple([0, 8, 0, 0, -12]), [0, -2, 0, 0, 3])

    def test_great_numbers_and_a_hundred_of_them(self):
        self.assertEqual(simple([2 * BIG, 0, -3 * BIG]), [-2, 0, 3])
        self.assertEqual(simple([-BIG * number for number in HUNDRED]), [-number for number in HUNDRED][:99] + [100])

    def test_has_the_content_1_and_a_last_number_above_nought(self):
        for row in ROWS:
            if row:
                told = simple(row)
                self.assertEqual(content(told), 1)
                self.assertGreater(told[-1], 0)
                sign = 1 if row[-1] > 0 else -1
                self.assertEqual([sign * content(row) * number for number in told], row)


if __name__ == "__main__":
    unittest.main()
