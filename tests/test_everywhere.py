"""Point [1]: nothing that is handed in is changed, and each list that is answered is a new one."""

import unittest
from copy import deepcopy

from polyarith.contents import content, simple
from polyarith.errors import NoNumber, NoPower
from polyarith.rows import made, minus, plus, put_in, raised, scaled, slope, times, value
from tests.samples import BIG, HUNDRED, TINY

SOME = TINY + [[2, -4], [6], [-6, 0, 9], [BIG, 0, -BIG], [BIG + 1, BIG]]
SHORT = SOME + [HUNDRED]


def calls_with_rows():
    """Each function with what it is handed; where two rows are handed, also the very same one twice."""
    for row in SHORT:
        for function in (made, slope, content, simple):
            yield function, (list(row),)
        yield made, (list(row) + [0, 0],)
        yield made, (tuple(row),)
        for number in (-3, -1, 0, 1, BIG):
            yield scaled, (list(row), number)
            yield value, (list(row), number)
        for many in (0, 1):
            yield raised, (list(row), many)
        for other in ([], [1], [-2], [0, 1], [1, 1]):
            for function in (plus, minus, put_in):
                yield function, (list(row), list(other))
                yield function, (list(other), list(row))
    for row in SOME:
        for many in (2, 3, 4, 7):
            yield raised, (list(row), many)
        for other in SOME:
            yield times, (list(row), list(other))
        same = list(row)
        for function in (plus, minus, times, put_in):
            yield function, (same, same)


class Everywhere(unittest.TestCase):
    def test_what_is_handed_in_is_as_before(self):
        for function, handed in calls_with_rows():
            before = deepcopy(handed)
            function(*handed)
            self.assertEqual(handed, before, function)

    def test_what_is_refused_is_as_before(self):
        for refusal, function, handed in (
            (NoNumber, made, ([1, None, 0],)),
            (NoNumber, made, ([0, 0, False],)),
            (NoPower, raised, ([1, 2], -1)),
            (NoPower, raised, ([], -1)),
        ):
            before = deepcopy(handed)
            self.assertRaises(refusal, function, *handed)
            self.assertEqual(handed, before, function)

    def test_a_list_that_was_answered_may_be_changed(self):
        for function, handed in calls_with_rows():
            before = deepcopy(handed)
            told = function(*handed)
            kept = deepcopy(told)
            if isinstance(told, list):
                for given in handed:
                    self.assertIsNot(told, given, function)
                told.append(99)
                told[0] = 98
                self.assertEqual(handed, before, function)
            self.assertEqual(function(*handed), kept, function)

    def test_a_changed_answer_changes_no_later_answer_to_an_equal_question(self):
        for function, handed in calls_with_rows():
            told = function(*deepcopy(handed))
            kept = deepcopy(told)
            if isinstance(told, list):
                told.append(99)
                told[0] = 98
            self.assertEqual(function(*deepcopy(handed)), kept, function)

    def test_the_answer_that_equals_what_was_handed_in_is_another_list(self):
        for row in ([], [1], [3, 1], [0, 0, 1], [BIG, 1], [1] * 100):
            for told in (
                plus(row, []), plus([], row), minus(row, []), made(row), raised(row, 1), scaled(row, 1),
                times(row, [1]), times([1], row), put_in(row, [0, 1]), put_in([0, 1], row), simple(row),
            ):
                if told == row:
                    self.assertIsNot(told, row)
                    told.append(5)
                    self.assertNotEqual(told, row)

    def test_what_is_answered_is_a_polynomial_or_a_number(self):
        for function, handed in calls_with_rows():
            told = function(*handed)
            if function in (value, content):
                self.assertIs(type(told), int, function)
            else:
                self.assertIs(type(told), list, function)
                self.assertTrue(all(type(number) is int for number in told), function)
                self.assertTrue(not told or told[-1] != 0, function)

    def test_a_later_change_of_what_was_handed_in_changes_no_answer(self):
        row = [2, 4]
        told = [made(row), plus(row, []), minus(row, []), raised(row, 1), scaled(row, 1), put_in([0, 1], row)]
        row[0] = 7
        row.append(1)
        self.assertEqual(told, [[2, 4]] * 6)
        self.assertEqual(simple(row), [7, 4, 1])


if __name__ == "__main__":
    unittest.main()
