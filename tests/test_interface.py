"""The names and arguments that the interface lists."""

import inspect
import unittest

from polyarith import contents, division, meeting, notes, parts, rows

LISTED = (
    (rows, "made", ["numbers"]),
    (rows, "plus", ["ones", "others"]),
    (rows, "minus", ["ones", "others"]),
    (rows, "times", ["ones", "others"]),
    (rows, "scaled", ["row", "many"]),
    (rows, "raised", ["row", "many"]),
    (rows, "slope", ["row"]),
    (rows, "put_in", ["row", "other"]),
    (rows, "value", ["row", "place"]),
    (contents, "content", ["row"]),
    (contents, "simple", ["row"]),
    (division, "divided", ["row", "by"]),
    (division, "quotient", ["row", "by"]),
    (meeting, "meet", ["ones", "others"]),
    (parts, "parts", ["row"]),
    (parts, "joined", ["number", "pairs"]),
    (parts, "no_square", ["row"]),
    (notes, "shown", ["row"]),
    (notes, "read", ["line"]),
)


class Interface(unittest.TestCase):
    def test_each_function_takes_the_listed_arguments(self):
        for module, name, arguments in LISTED:
            function = getattr(module, name)
            self.assertEqual(list(inspect.signature(function).parameters), arguments, name)

    def test_each_function_is_defined_in_the_file_that_lists_it(self):
        for module, name, _ in LISTED:
            function = getattr(module, name)
            self.assertTrue(inspect.isfunction(function), name)
            self.assertEqual((function.__name__, function.__module__), (name, module.__name__))


if __name__ == "__main__":
    unittest.main()
