"""The classes of errors, as the interface lists them."""

import unittest

from hullwright import errors
from hullwright.errors import BadLine, Flat, HullwrightError

NAMES = ["BadNumber", "BadText", "BadInequality", "Empty", "Unbounded", "BadSize", "Flat", "BadQuestion", "BadFace",
         "NotInside", "BadMap", "NotLattice", "NoSuch", "BadLine", "NotPointed"]


class ErrorsTest(unittest.TestCase):
    def test_base_class(self):
        self.assertEqual(HullwrightError.__bases__, (ValueError,))

    def test_all_classes_are_directly_below_it(self):
        for name in NAMES:
            self.assertEqual(getattr(errors, name).__bases__, (HullwrightError,), name)
            self.assertEqual(getattr(errors, name).__module__, "hullwright.errors")

    def test_attributes(self):
        self.assertEqual(Flat((0, 1, -1)).inequality, (0, 1, -1))
        self.assertEqual(BadLine(7).line, 7)
