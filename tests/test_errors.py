"""The errors of the interface."""

import unittest

from polyarith import errors
from polyarith.errors import ByNought, NoMeet, NoNumber, NoParts, NoPower, NotWhole, NotWritten, PolyError

SEVEN = (NoNumber, NoPower, ByNought, NotWhole, NoMeet, NoParts, NotWritten)


class Errors(unittest.TestCase):
    def test_every_refusal_is_a_poly_error(self):
        for refusal in SEVEN:
            self.assertTrue(issubclass(refusal, PolyError), refusal)

    def test_a_poly_error_is_a_value_error(self):
        self.assertTrue(issubclass(PolyError, ValueError))

    def test_none_of_the_seven_stands_under_another(self):
        for one in SEVEN:
            for other in SEVEN:
                if one is not other:
                    self.assertFalse(issubclass(one, other), (one, other))

    def test_each_is_a_class_of_its_own_under_its_name(self):
        self.assertEqual(len(set(SEVEN + (PolyError,))), 8)
        for name in ("PolyError", "NoNumber", "NoPower", "ByNought", "NotWhole", "NoMeet", "NoParts", "NotWritten"):
            told = getattr(errors, name)
            self.assertEqual((told.__name__, told.__module__), (name, "polyarith.errors"))

    def test_each_can_be_raised_with_and_without_words(self):
        for refusal in SEVEN:
            for words in ((), ("why",)):
                with self.assertRaises(PolyError):
                    raise refusal(*words)


if __name__ == "__main__":
    unittest.main()
