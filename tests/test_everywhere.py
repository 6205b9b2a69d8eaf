"""Point [1]: nothing that is handed in is changed, and each list that is answered is a new one."""

import unittest
from copy import deepcopy

from polyarith.contents import content, simple
from polyarith.division import divided, quotient
from polyarith.meeting import meet
from polyarith.notes import read, shown
from polyarith.parts import joined, no_square, parts
from polyarith.rows import made, minus, plus, put_in, raised, scaled, slope, times, value
from tests.samples import BIG, HUNDRED, TINY, dense_row, told_product, told_raised

SOME = TINY + [[2, -4], [6], [-6, 0, 9], [BIG, 0, -BIG], [BIG + 1, BIG]]
SHORT = SOME + [HUNDRED]
# What there is at most for those that take thirteen numbers, and products with squares in them.
WITH_PARTS = [
    told_raised([1, 1], 12), told_product([0, 0, -4], told_raised([-1, 2], 3)), [0] * 12 + [BIG], dense_row(13, 1),
    told_product([0, BIG], told_product([1, 1], told_raised([1, 0, 1], 2))),
]


def calls_with_rows():
    """Each function with what it is handed; where two rows are handed, also the very same one twice."""
    for row in SHORT:
        for function in (made, slope, content, simple):
            yield function, (list(row),)
        yield made, (list(row) + [0, 0],)
        yield made, (tuple(row),)
        for number in (-3, -1, 0, 1, BIG):
            yield scaled, (list(row), number)
            yield value, (list(row), number)
        for many in (0, 1):
            yield raised, (list(row), many)
        for other in ([], [1], [-2], [0, 1], [1, 1]):
            for function in (plus, minus, put_in):
                yield function, (list(row), list(other))
                yield function, (list(other), list(row))
    for row in SOME:
        for many in (2, 3, 4, 7):
            yield raised, (list(row), many)
        for other in SOME:
            yield times, (list(row), list(other))
        same = list(row)
        for function in (plus, minus, times, put_in):
            yield function, (same, same)


def calls_of_division():
    for row in SHORT + [dense_row(100, 1)]:
        for by in ([1], [-1], [6], [1, 1], [0, 1], [-1, 2], list(range(1, 51)), dense_row(50, 2), HUNDRED):
            yield divided, (list(row), list(by))
        for by in ([1], [-1], [-1, 1]):
            yield quotient, (told_product(row, by), list(by))
            yield divided, (told_product(row, by), list(by))
        if row:
            same = list(row)
            yield divided, (same, same)
            yield quotient, (same, same)


def calls_of_parts():
    for row in SOME + WITH_PARTS:
        for other in ([], [1], [-6], [1, 1], [0, -2], dense_row(13, 2), list(row)):
            if row or other:
                yield meet, (list(row), list(other))
                yield meet, (list(other), list(row))
        yield no_square, (list(row),)
        if row:
            same = list(row)
            yield meet, (same, same)
            yield parts, (list(row),)
    for row in SHORT:
        for number in (0, 1, -4):
            same = list(row)
            yield joined, (number, [])
            yield joined, (number, [(same, 1)])
            yield joined, (number, [(same, 0), ([], 0), (same, 0), ([1], 3)])
            yield joined, (number, [([0, 1], 2), ([], 1), (same, 0)])
    for row in SOME:
        same = list(row)
        yield joined, (-1, [(same, 2), ([1, 1], 3), (same, 1)])


def calls_of_notes():
    for row in SHORT + WITH_PARTS + [dense_row(100, 1)]:
        yield shown, (list(row),)
        yield read, (shown(list(row)),)


def all_calls():
    yield from calls_with_rows()
    yield from calls_of_division()
    yield from calls_of_parts()
    yield from calls_of_notes()


def lists_in(thing):
    """Each list in what is handed in or answered, at whatever depth."""
    if isinstance(thing, list):
        yield thing
    if isinstance(thing, (list, tuple)):
        for each in thing:
            yield from lists_in(each)


def is_row(numbers):
    return all(not isinstance(each, tuple) for each in numbers)


class Everywhere(unittest.TestCase):
    def test_what_is_handed_in_is_as_before(self):
        for function, handed in all_calls():
            before = deepcopy(handed)
            function(*handed)
            self.assertEqual(handed, before, function)

    def test_no_list_of_an_answer_is_one_that_was_handed_in(self):
        for function, handed in all_calls():
            told = function(*handed)
            given = {id(each) for each in lists_in(handed)}
            self.assertTrue(all(id(each) not in given for each in lists_in(told)), function)

    def test_no_two_lists_of_an_answer_are_one(self):
        for function, handed in all_calls():
            told = list(lists_in(function(*handed)))
            self.assertEqual(len({id(each) for each in told}), len(told), function)

    def test_no_two_answers_share_a_list(self):
        for function, handed in all_calls():
            first, second = function(*handed), function(*handed)
            kept = {id(each) for each in lists_in(first)}
            self.assertTrue(all(id(each) not in kept for each in lists_in(second)), function)

    def test_lists_that_were_answered_may_be_changed_one_by_one(self):
        for function, handed in all_calls():
            before = deepcopy(handed)
            kept = deepcopy(function(*handed))
            for at in range(len(list(lists_in(kept)))):
                told = function(*handed)
                self.assertEqual(told, kept, function)
                answered = list(lists_in(told))
                as_told = deepcopy(answered)
                answered[at].append(99)
                answered[at][0] = 98
                self.assertEqual(handed, before, function)
                # A list of rows is told by what stands in it, so only the rows themselves are held to be as before.
                for place, each in enumerate(answered):
                    if place != at and is_row(as_told[place]):
                        self.assertEqual(each, as_told[place], function)
            self.assertEqual(function(*handed), kept, function)

    def test_a_changed_answer_changes_no_later_answer_to_an_equal_question(self):
        for function, handed in all_calls():
            told = function(*deepcopy(handed))
            kept = deepcopy(told)
            for each in list(lists_in(told)):
                each.append(99)
                each[0] = 98
            self.assertEqual(function(*deepcopy(handed)), kept, function)

    def test_the_answer_that_equals_what_was_handed_in_is_another_list(self):
        for row in ([], [1], [3, 1], [0, 0, 1], [BIG, 1], [1] * 100):
            for told in (
                plus(row, []), plus([], row), minus(row, []), made(row), raised(row, 1), scaled(row, 1),
                times(row, [1]), times([1], row), put_in(row, [0, 1]), put_in([0, 1], row), simple(row),
                quotient(row, [1]), divided(row, [1])[1], divided(row, [0] * 100 + [1])[2], joined(1, [(row, 1)]),
            ):
                if told == row:
                    self.assertIsNot(told, row)
                    told.append(5)
                    self.assertNotEqual(told, row)

    def test_what_is_answered_is_a_polynomial_or_a_number(self):
        for function, handed in calls_with_rows():
            told = function(*handed)
            if function in (value, content):
                self.assertIs(type(told), int, function)
            else:
                self.assertIs(type(told), list, function)

    def test_each_polynomial_that_is_answered_is_one(self):
        for function, handed in all_calls():
            for row in lists_in(function(*handed)):
                if is_row(row):
                    self.assertTrue(all(type(number) is int for number in row), function)
                    self.assertTrue(not row or row[-1] != 0, function)

    def test_a_later_change_of_what_was_handed_in_changes_no_answer(self):
        row = [2, 4]
        told = [made(row), plus(row, []), minus(row, []), raised(row, 1), scaled(row, 1), put_in([0, 1], row)]
        told += [divided(row, [0, 0, 1])[2], divided(row, [1])[1], quotient(row, [1]), joined(1, [(row, 1)])]
        row[0] = 7
        row.append(1)
        self.assertEqual(told, [[2, 4]] * 10)
        self.assertEqual(simple(row), [7, 4, 1])

    def test_a_later_change_of_what_was_handed_in_changes_no_parts(self):
        row = [1, 1]
        told = [parts(row), meet(row, []), meet([], row), no_square(row)]
        kept = deepcopy(told)
        row[0] = 7
        row.append(1)
        self.assertEqual(told, kept)


if __name__ == "__main__":
    unittest.main()
