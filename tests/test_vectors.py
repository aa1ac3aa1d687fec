"""Points 1.3 and 1.4: vectors and matrices."""

import itertools
import math
import unittest
from fractions import Fraction
from functools import reduce

from hullwright.vectors import adapted_forms, determinant, dot, echelon, primitive, rank, relation, solve
from tests.support import divided, product_of, rank_by_words, reduced_form, some_row, source_of, weighted, whole


def echelon_by_words(rows):
    """Return the primitive multiples of the rows of the reduced echelon form."""
    found = []
    for row in reduced_form(rows):
        common = math.lcm(*[entry.denominator for entry in row])
        found.append(divided(tuple(int(entry * common) for entry in row)))
    return found


def determinant_by_words(rows):
    """Return the sum over all permutations."""
    total = 0
    for order in itertools.permutations(range(len(rows))):
        turns = sum(1 for i, j in itertools.combinations(range(len(rows)), 2) if order[i] > order[j])
        total += (-1) ** turns * math.prod(rows[k][order[k]] for k in range(len(rows)))
    return total


def some_matrix(source, many, width):
    """Return a random matrix, often with dependent rows and rows of zeros."""
    most = source.choice([1, 3, 9999, 10 ** 30])
    rows = [some_row(source, width, most) for _ in range(many)]
    if source.random() < 0.4:
        weights = some_row(source, many, 3)
        rows[source.randrange(many)] = weighted(weights, rows)
    if source.random() < 0.2:
        rows[source.randrange(many)] = (0,) * width
    if source.random() < 0.2:
        rows[source.randrange(many)] = rows[source.randrange(many)]
    return rows


def matrices(number, many):
    """Yield random matrices of all small sizes."""
    source = source_of(number)
    for _ in range(many):
        yield some_matrix(source, source.randint(1, 6), source.randint(1, 6))


class VectorTest(unittest.TestCase):
    def test_dot(self):
        self.assertEqual(dot((1, 2, 3), (4, -5, 6)), 12)
        self.assertEqual(dot((0, 0), (10 ** 50, 3)), 0)
        self.assertEqual(dot((10 ** 50,), (-10 ** 50,)), -10 ** 100)
        self.assertEqual(dot((), ()), 0)

    def test_primitive(self):
        self.assertEqual(primitive((4, -6, 0)), (2, -3, 0))
        self.assertEqual(primitive((-4,)), (-1,))
        self.assertEqual(primitive((0, 0, 0)), (0, 0, 0))
        self.assertEqual(primitive((0,)), (0,))
        self.assertEqual(primitive((0, -7)), (0, -1))
        self.assertEqual(primitive((3 * 10 ** 70 + 3, 6)), (10 ** 70 + 1, 2))
        self.assertIsInstance(primitive((2, 4)), tuple)


class EchelonTest(unittest.TestCase):
    def test_examples(self):
        self.assertEqual(echelon([(2, 4, 2), (1, 2, 3), (0, 0, 0)]), [(1, 2, 0), (0, 0, 1)])
        self.assertEqual(echelon([(0, 0)]), [])
        self.assertEqual(echelon([(0,)]), [])
        self.assertEqual(echelon([(-5,)]), [(1,)])
        self.assertEqual(echelon([(0, -2, 4)]), [(0, 1, -2)])
        self.assertEqual(echelon([(2, 0, 1), (0, 3, 1)]), [(2, 0, 1), (0, 3, 1)])

    def test_against_fractions(self):
        for rows in matrices(3, 800):
            found = echelon(rows)
            self.assertIsInstance(found, list)
            self.assertTrue(all(isinstance(row, tuple) for row in found))
            self.assertEqual(found, echelon_by_words(rows))
            self.assertEqual(rank(rows), rank_by_words(rows))

    def test_rank(self):
        self.assertEqual(rank([(0, 0), (0, 0)]), 0)
        self.assertEqual(rank([(1, 2), (2, 4), (3, 6)]), 1)
        self.assertEqual(rank([(1, 0), (0, 1), (1, 1)]), 2)


class DeterminantTest(unittest.TestCase):
    def test_examples(self):
        self.assertEqual(determinant([(0, 1), (1, 0)]), -1)
        self.assertEqual(determinant([(-7,)]), -7)
        self.assertEqual(determinant([(0,)]), 0)
        self.assertEqual(determinant([(0, 2, 1), (0, 3, 5), (1, 9, 9)]), 7)
        self.assertEqual(determinant([(1, 2), (2, 4)]), 0)
        self.assertEqual(determinant([(10 ** 40, 0), (0, 10 ** 40)]), 10 ** 80)

    def test_against_permutations(self):
        source = source_of(4)
        for _ in range(400):
            size = source.randint(1, 5)
            rows = some_matrix(source, size, size)
            self.assertEqual(determinant(rows), determinant_by_words(rows))


class SolveTest(unittest.TestCase):
    def assert_solved(self, rows, right):
        found = solve(rows, right)
        augmented = [row + (entry,) for row, entry in zip(rows, right)]
        if rank_by_words(augmented) > rank_by_words(rows):
            self.assertIsNone(found)
            return
        self.assertIsInstance(found, list)
        self.assertEqual(len(found), len(rows[0]))
        for a, b in found:
            self.assertTrue(whole(a) and whole(b) and b > 0 and math.gcd(a, b) == 1)
        for row, entry in zip(rows, right):
            self.assertEqual(sum(c * Fraction(a, b) for c, (a, b) in zip(row, found)), entry)

    def test_random(self):
        source = source_of(5)
        for rows in matrices(6, 800):
            self.assert_solved(rows, some_row(source, len(rows), 5))
            weights = some_row(source, len(rows[0]), 3)
            self.assert_solved(rows, tuple(product_of(row, weights) for row in rows))

    def test_edges(self):
        self.assertEqual(solve([(2, 0), (0, -4)], (1, 1)), [(1, 2), (-1, 4)])
        self.assertIsNone(solve([(1, 1), (2, 2)], (1, 3)))
        self.assertIsNone(solve([(0, 0)], (1,)))
        self.assert_solved([(0, 0)], (0,))
        self.assert_solved([(1, 1), (2, 2)], (1, 2))
        self.assert_solved([(3,)], (10 ** 60,))


class RelationTest(unittest.TestCase):
    def assert_related(self, rows):
        found = relation(rows)
        if rank_by_words(rows) == len(rows):
            self.assertIsNone(found)
            return
        self.assertIsInstance(found, tuple)
        self.assertEqual(set(weighted(found, rows)), {0})
        self.assertEqual(reduce(math.gcd, found), 1)

    def test_random(self):
        for rows in matrices(7, 800):
            self.assert_related(rows)

    def test_edges(self):
        self.assert_related([(0, 0)])
        self.assert_related([(0,), (1,)])
        self.assert_related([(1, 2), (0, 0), (3, 4)])
        self.assert_related([(2, 4), (3, 6)])
        self.assert_related([(1, 0), (0, 1)])
        self.assert_related([(6, 0), (0, 10), (15, 15)])


class AdaptedFormsTest(unittest.TestCase):
    """What basic vectors rest on: coordinates of the vectors of integers in a plane."""

    def test_random(self):
        for rows in matrices(8, 400):
            given = list(rows)
            forms, flat = adapted_forms(rows)
            self.assertEqual(rows, given)
            self.assertEqual(len(forms), rank_by_words(rows))
            self.assertIn(determinant_by_words(forms + flat), (1, -1))
            for form in flat:
                self.assertTrue(all(product_of(form, row) == 0 for row in rows))
