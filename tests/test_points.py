"""Points 2.1 to 2.4: points and inequalities."""

import unittest
from fractions import Fraction

from hullwright.errors import BadInequality, BadText
from hullwright.points import (
    combined, coordinates, is_inequality, is_point, made_inequality, made_point, middle, read_inequality, read_point,
    reversed_inequality, value_at, write_inequality, write_point)
from tests.support import (
    ODD_VALUES, inequality_by_words, point_by_words, product_of, some_inequality, some_point, some_points, some_row,
    source_of, variants, weighted)


def pair(value):
    """Return the tuple of a fraction of Python."""
    return (value.numerator, value.denominator)


def places(point):
    """Return the coordinates of a point as fractions of Python."""
    return [Fraction(entry, point[0]) for entry in point[1:]]


class FormTest(unittest.TestCase):
    def assert_agrees(self, d, value):
        for tell, by_words in ((is_point, point_by_words), (is_inequality, inequality_by_words)):
            answer = tell(d, value)
            self.assertIsInstance(answer, bool)
            self.assertEqual(answer, by_words(d, value))

    def test_points(self):
        self.assertTrue(is_point(1, (1, 0)))
        self.assertTrue(is_point(2, (6, 3, 2)))
        self.assertTrue(is_point(4, (1, 0, 0, 0, 0)))
        self.assertTrue(is_point(1, (10 ** 80, 1)))
        for value in [(2, 0), (0, 1), (-1, 0), (-1, 1), (2, 4), (1,), (1, 0, 0), [1, 0], (1, True), (True, 0),
                      (1, 0.0), (1.0, 0), ("1", 0), (1, None), "10", b"ab", 10, None]:
            self.assertIs(is_point(1, value), False)

    def test_inequalities(self):
        for value in [(0, 1), (0, -1), (-2, 1), (3, -2)]:
            self.assertTrue(is_inequality(1, value))
        self.assertTrue(is_inequality(3, (0, 0, 0, 1)))
        for value in [(1, 0), (0, 0), (0, 2), (2, 4), (1,), (1, 1, 1), [0, 1], (True, 1), (0, True), (0, 1.0), None]:
            self.assertIs(is_inequality(1, value), False)

    def test_any_value(self):
        source = source_of(8)
        for d in range(1, 5):
            for value in ODD_VALUES:
                self.assert_agrees(d, value)
            for _ in range(20):
                for value in variants(some_point(source, d, 5)):
                    self.assert_agrees(d, value)
                for value in variants(some_inequality(source, d, 5)):
                    self.assert_agrees(d, value)
                self.assert_agrees(d, some_row(source, d + 1, 2))


class FunctionTest(unittest.TestCase):
    def test_made_point(self):
        self.assertEqual(made_point([(1, 2), (1, 3)]), (6, 3, 2))
        self.assertEqual(made_point([(0, 1)]), (1, 0))
        self.assertEqual(made_point([(-1, 4), (1, 6), (2, 1)]), (12, -3, 2, 24))

    def test_there_and_back(self):
        source = source_of(9)
        for _ in range(300):
            point = some_point(source, source.randint(1, 4), source.choice([2, 12, 10 ** 30]))
            found = coordinates(point)
            self.assertIsInstance(found, list)
            self.assertEqual(found, [pair(x) for x in places(point)])
            self.assertEqual(made_point(found), point)

    def test_made_inequality(self):
        self.assertEqual(made_inequality((4, -6)), (2, -3))
        self.assertEqual(made_inequality((0, 0, -5)), (0, 0, -1))
        self.assertEqual(made_inequality((7, 1)), (7, 1))
        for row in [(1, 0), (0, 0), (-3, 0, 0), (0, 0, 0, 0, 0)]:
            with self.assertRaises(BadInequality):
                made_inequality(row)

    def test_value_at(self):
        self.assertEqual(value_at((1, -1, 0), (6, 3, 2)), (1, 2))
        self.assertEqual(value_at((-2, 1), (1, 2)), (0, 1))
        source = source_of(10)
        for _ in range(200):
            d = source.randint(1, 4)
            inequality = some_inequality(source, d, 9)
            point = some_point(source, d, 9)
            expected = pair(Fraction(product_of(inequality, point), point[0]))
            self.assertEqual(value_at(inequality, point), expected)

    def test_combined(self):
        self.assertEqual(combined([2, -1], [(1, 2), (3, 4)]), (-1, 0))
        self.assertEqual(combined((0,), [(5, 6, 7)]), (0, 0, 0))
        source = source_of(11)
        for _ in range(100):
            many = source.randint(1, 5)
            rows = [some_row(source, 3, 10 ** 20) for _ in range(many)]
            weights = some_row(source, many, 9)
            self.assertEqual(combined(weights, rows), weighted(weights, rows))
            self.assertEqual(combined(list(weights), rows), weighted(weights, rows))

    def test_middle(self):
        self.assertEqual(middle([(1, 0), (1, 2)]), (1, 1))
        self.assertEqual(middle([(1, 0), (1, 0), (1, 1)]), (3, 1))
        self.assertEqual(middle([(6, 3, 2)]), (6, 3, 2))
        source = source_of(12)
        for _ in range(200):
            points = some_points(source, source.randint(1, 4), source.randint(1, 5), 7)
            found = middle(points)
            self.assertTrue(point_by_words(len(points[0]) - 1, found))
            sums = [sum(column) / len(points) for column in zip(*[places(point) for point in points])]
            self.assertEqual(places(found), sums)

    def test_reversed_inequality(self):
        self.assertEqual(reversed_inequality((1, -2, 0)), (-1, 2, 0))


class TextTest(unittest.TestCase):
    def test_write(self):
        self.assertEqual(write_point((6, 3, 2)), "1/2 1/3")
        self.assertEqual(write_point((1, -4)), "-4")
        self.assertEqual(write_point((2, 0, -1, 4)), "0 -1/2 2")
        self.assertEqual(write_inequality((0, -3, 12)), "0 -3 12")
        self.assertEqual(write_inequality((1, 10 ** 5000)), "1 1" + "0" * 5000)

    def test_read_back(self):
        source = source_of(13)
        for _ in range(300):
            d = source.randint(1, 4)
            most = source.choice([2, 30, 10 ** 10])
            point = some_point(source, d, most)
            inequality = some_inequality(source, d, most)
            self.assertEqual(read_point(d, write_point(point)), point)
            self.assertEqual(read_inequality(d, write_inequality(inequality)), inequality)

    def test_no_point(self):
        for text in ["", " ", "1", "1 2 3", "1  2", " 1 2", "1 2 ", "1\t2", "1\n2", "1 2\n", "1 2/4", "1 -0", "01 1",
                     "a b", "1,2", "1 1/0", "1 " + "9" * 61, "1/" + "9" * 61 + " 1", "1 " * 10 ** 4]:
            with self.assertRaises(BadText, msg=text[:20]):
                read_point(2, text)

    def test_no_inequality(self):
        for text in ["", " ", "1", "1 2 3", "1  2", " 1 2", "1 2 ", "1\n2", "1 2\n", "1 0", "0 0", "2 4", "0 2",
                     "1 -0", "01 1", "1/2 1", "+1 1", "1 " + "9" * 61, "9" * 61 + " 1", "1 " * 10 ** 4]:
            with self.assertRaises(BadText, msg=text[:20]):
                read_inequality(1, text)

    def test_sixty_digits(self):
        nines = "9" * 60
        self.assertEqual(read_point(2, "-" + nines + " 1/" + nines)[0], 10 ** 60 - 1)
        self.assertEqual(read_inequality(1, "1 -" + nines), (1, 1 - 10 ** 60))
