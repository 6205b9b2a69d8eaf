"""Each refusal is taken by its own class and by PolyError, and by none of the other six."""

import unittest
from copy import deepcopy

from polyarith.division import divided, quotient
from polyarith.errors import ByNought, NoMeet, NoNumber, NoParts, NoPower, NotWhole, NotWritten, PolyError
from polyarith.meeting import meet
from polyarith.notes import read
from polyarith.parts import joined, parts
from polyarith.rows import made, raised

SEVEN = (NoNumber, NoPower, ByNought, NotWhole, NoMeet, NoParts, NotWritten)

REFUSED = (
    (NoNumber, made, ([1, None, 0],)),
    (NoNumber, made, ([0, 0, False],)),
    (NoPower, raised, ([1, 2], -1)),
    (NoPower, raised, ([], -1)),
    (ByNought, divided, ([1, 2], [])),
    (ByNought, divided, ([], [])),
    (ByNought, quotient, ([1, 2], [])),
    (ByNought, quotient, ([], [])),
    (NotWhole, quotient, ([1, 2], [1, 1])),
    (NotWhole, quotient, ([1, 3], [2])),
    (NotWhole, quotient, ([1], [0, 1])),
    (NoMeet, meet, ([], [])),
    (NoParts, parts, ([],)),
    (NoPower, joined, (1, [([1, 1], -1)])),
    (NoPower, joined, (0, [([], 2), ([1, 1], -3), ([1], 0)])),
    (NotWritten, read, ("",)),
    (NotWritten, read, ("x^1",)),
    (NotWritten, read, ("1 + x",)),
)


class Refusals(unittest.TestCase):
    def test_each_is_of_its_own_class_and_of_no_other(self):
        for refusal, function, handed in REFUSED:
            with self.assertRaises(PolyError) as caught:
                function(*deepcopy(handed))
            self.assertIsInstance(caught.exception, ValueError)
            taken = [each for each in SEVEN if isinstance(caught.exception, each)]
            self.assertEqual(taken, [refusal], function)

    def test_each_refusal_is_among_them(self):
        self.assertEqual({refusal for refusal, _, _ in REFUSED}, set(SEVEN))

    def test_what_is_refused_is_as_before(self):
        for refusal, function, handed in REFUSED:
            before = deepcopy(handed)
            self.assertRaises(refusal, function, *handed)
            self.assertEqual(handed, before, function)


if __name__ == "__main__":
    unittest.main()
