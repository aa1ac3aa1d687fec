"""Points 1.1 and 1.2: fractions and their texts."""

import math
import unittest
from fractions import Fraction

from hullwright.errors import BadNumber, BadText
from hullwright.numbers import (
    compare, floor, fraction, minus, over, plus, read_fraction, sign, times, write_fraction)
from tests.support import source_of, whole

LONG = 10 ** 6000 + 7


def pair(value):
    """Return the tuple of a fraction of Python."""
    return (value.numerator, value.denominator)


class FractionTest(unittest.TestCase):
    def assert_is(self, value, expected):
        self.assertIsInstance(value, tuple)
        self.assertEqual(value, expected)
        self.assertTrue(all(whole(entry) for entry in value))

    def test_lowest_terms(self):
        self.assert_is(fraction(6, -4), (-3, 2))
        self.assert_is(fraction(-6, -4), (3, 2))
        self.assert_is(fraction(0, -7), (0, 1))
        self.assert_is(fraction(5, 1), (5, 1))
        self.assert_is(fraction(5, -1), (-5, 1))
        self.assert_is(fraction(LONG * 3, LONG * -6), (-1, 2))

    def test_divisor_zero(self):
        for a in (0, 1, -5):
            with self.assertRaises(BadNumber):
                fraction(a, 0)
            with self.assertRaises(BadNumber):
                over((a, 1), (0, 1))

    def test_against_python(self):
        source = source_of(1)
        for _ in range(2000):
            most = source.choice([2, 9, 10 ** 40])
            x = Fraction(source.randint(-most, most), source.randint(1, most))
            y = Fraction(source.randint(-most, most), source.randint(1, most))
            self.assert_is(plus(pair(x), pair(y)), pair(x + y))
            self.assert_is(minus(pair(x), pair(y)), pair(x - y))
            self.assert_is(times(pair(x), pair(y)), pair(x * y))
            if y != 0:
                self.assert_is(over(pair(x), pair(y)), pair(x / y))
            self.assertEqual(compare(pair(x), pair(y)), (x > y) - (x < y))
            self.assertEqual(sign(pair(x)), (x > 0) - (x < 0))
            self.assertEqual(floor(pair(x)), math.floor(x))
            for value in (compare(pair(x), pair(y)), sign(pair(x)), floor(pair(x))):
                self.assertTrue(whole(value))

    def test_edges(self):
        self.assertEqual(floor((-1, 2)), -1)
        self.assertEqual(floor((-4, 1)), -4)
        self.assertEqual(floor((7, 2)), 3)
        self.assertEqual(sign((0, 1)), 0)
        self.assertEqual(compare((1, 2), (1, 2)), 0)
        self.assertEqual(over((1, 2), (-1, 3)), (-3, 2))
        self.assertEqual(plus((1, 2), (-1, 2)), (0, 1))


class TextTest(unittest.TestCase):
    def test_write(self):
        self.assertEqual(write_fraction((-3, 2)), "-3/2")
        self.assertEqual(write_fraction((0, 1)), "0")
        self.assertEqual(write_fraction((-12, 1)), "-12")
        self.assertEqual(write_fraction((1, 10)), "1/10")

    def test_write_many_digits(self):
        self.assertEqual(write_fraction((LONG, 1)), "1" + "0" * 5999 + "7")
        self.assertEqual(write_fraction((-LONG, 10 ** 5000)), "-1" + "0" * 5999 + "7/1" + "0" * 5000)
        for digits in range(55, 190):
            for number in (10 ** digits, 10 ** digits - 1, -10 ** digits, 10 ** digits + 10 ** 59):
                self.assertEqual(write_fraction((number, 1)), str(number))

    def test_read_back(self):
        source = source_of(2)
        for _ in range(500):
            most = source.choice([3, 20, 10 ** 30])
            x = pair(Fraction(source.randint(-most, most), source.randint(1, most)))
            self.assertEqual(read_fraction(write_fraction(x)), x)

    def test_read(self):
        self.assertEqual(read_fraction("0"), (0, 1))
        self.assertEqual(read_fraction("-7"), (-7, 1))
        self.assertEqual(read_fraction("-7/3"), (-7, 3))
        self.assertEqual(read_fraction("1/2"), (1, 2))

    def test_no_text(self):
        for text in ["", "2/4", "1/1", "-0", "01", "0/1", "0/2", "1/0", "-1/1", "1/-2", "-1/-2", "+1", "1/+2", "1/02",
                     "00", "-01", "-", "/", "1/", "/2", "1/2/3", "1 /2", "1/ 2", " 1", "1 ", "1\n", "\n1", "1.0", "1e3",
                     "1_0", "0x1", "a", "--1", "1-", "\u0661", "\u00b2", "1/\u0662", "-0/2", "1//2", "1" * 10 ** 5]:
            with self.assertRaises(BadText, msg=text[:20]):
                read_fraction(text)

    def test_sixty_digits(self):
        nines = "9" * 60
        self.assertEqual(read_fraction(nines), (10 ** 60 - 1, 1))
        self.assertEqual(read_fraction("-" + nines), (1 - 10 ** 60, 1))
        self.assertEqual(read_fraction("-1/" + nines), (-1, 10 ** 60 - 1))
        self.assertEqual(read_fraction("1" + "0" * 59 + "/" + nines), (10 ** 59, 10 ** 60 - 1))
        for text in ["9" * 61, "-" + "9" * 61, "1/" + "9" * 61, "9" * 61 + "/2", "1" + "0" * 60, "9" * 5000]:
            with self.assertRaises(BadText):
                read_fraction(text)
