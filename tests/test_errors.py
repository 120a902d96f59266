"""The classes of treespace.errors."""

import unittest

from treespace import errors

NAMES = [
    "BadFraction", "BadSum", "BadNumber", "BadLot", "BadShape", "BadTree", "BadTrees", "BadLeg", "BadChain", "BadText",
]


class ErrorsTest(unittest.TestCase):
    def test_base_class(self):
        self.assertEqual(errors.TreeError.__bases__, (ValueError,))

    def test_all_ten_are_direct_subclasses(self):
        for name in NAMES:
            self.assertEqual(getattr(errors, name).__bases__, (errors.TreeError,), name)

    def test_all_are_different(self):
        self.assertEqual(len({getattr(errors, name) for name in NAMES}), 10)

    def test_there_are_no_others(self):
        found = [name for name, thing in vars(errors).items() if isinstance(thing, type)]
        self.assertEqual(sorted(found), sorted(NAMES + ["TreeError"]))

    def test_they_are_created_without_arguments(self):
        for name in NAMES:
            self.assertEqual(getattr(errors, name)().args, ())


if __name__ == "__main__":
    unittest.main()
