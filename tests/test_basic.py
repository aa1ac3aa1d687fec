"""Part 19: pointed cones, basic vectors, sums of them, and normal lattice polytopes."""

import itertools
import math
import unittest

from hullwright.basic import as_sum, basic_vectors, is_normal, pointing, sum_gap
from hullwright.errors import NotLattice, NotPointed
from hullwright.known import cross, cube, cyclic, simplex
from hullwright.making import moved, scaled, shifted
from hullwright.polytopes import hull
from tests.samples import lattice_polytope, some_unimodular_map
from tests.support import (
    facets_by_words, lattice_by_words, product_of, rank_by_words, reduced_form, satisfied, some_row, source_of, weighted)

# Lattice polytopes that are not normal: an empty tetrahedron, and others over it.
REEVE = [(1, 0, 0, 0), (1, 1, 0, 0), (1, 0, 1, 0), (1, 1, 1, 2)]


def in_cone_by_words(generators, vector):
    """Tell whether a vector is in a cone: some independent generators lead to it with numbers of at least 0."""
    if not any(vector):
        return True
    for many in range(1, len(vector) + 1):
        for chosen in itertools.combinations(generators, many):
            if rank_by_words(chosen) == many:
                rows = [tuple(generator[k] for generator in chosen) + (vector[k],) for k in range(len(vector))]
                solved = reduced_form(rows)
                if all(any(row[:-1]) for row in solved) and all(row[-1] >= 0 for row in solved):
                    return True
    return False


def basic_by_words(generators):
    """Return the ascending list of the basic vectors: all are sums of generators times numbers from 0 to 1."""
    d = len(generators[0])
    ranges = [range(sum(min(0, g[k]) for g in generators), sum(max(0, g[k]) for g in generators) + 1)
              for k in range(d)]
    known = {}

    def in_cone(vector):
        if vector not in known:
            known[vector] = in_cone_by_words(generators, vector)
        return known[vector]

    inside = [vector for vector in itertools.product(*ranges) if any(vector) and in_cone(vector)]
    # A vector that is not basic is the sum of a basic one, which stands among these, and another one of the cone.
    return sorted(v for v in inside
                  if not any(w != v and in_cone(tuple(a - b for a, b in zip(v, w))) for w in inside))


def pointed_by_words(generators):
    """Tell whether a cone without generators of zeros is pointed: no sum of them with weights is a vector of zeros."""
    for many in range(1, len(generators[0]) + 2):
        for chosen in itertools.combinations(generators, many):
            if rank_by_words(chosen) < many:
                columns = [tuple(generator[k] for generator in chosen) for k in range(len(chosen[0]))]
                solved = reduced_form(columns)
                if len(solved) == many - 1:
                    pivots = [next(k for k, entry in enumerate(row) if entry != 0) for row in solved]
                    free = next(k for k in range(many) if k not in pivots)
                    if all(row[free] <= 0 for row in solved):
                        return False
    return True


def some_generators(source, d, many, most):
    """Return random vectors, none of them of zeros."""
    found = []
    while len(found) < many:
        vector = some_row(source, d, most)
        if any(vector):
            found.append(vector)
    return found


def some_pointed(source, d, many, most):
    """Return random generators of a pointed cone, some of which may be equal."""
    while True:
        generators = some_generators(source, d, many, most)
        if source.random() < 0.2:
            generators.append(generators[0])
        if pointed_by_words(generators):
            return generators


class PointingTest(unittest.TestCase):
    def test_random(self):
        source = source_of(421)
        found = set()
        for d in range(1, 6):
            for _ in range(40):
                generators = some_generators(source, d, source.randint(1, d + 2), source.choice([1, 3, 9999]))
                given = list(generators)
                vector = pointing(d, generators)
                self.assertEqual(generators, given)
                self.assertEqual(vector is not None, pointed_by_words(generators))
                if vector is not None:
                    self.assertIsInstance(vector, tuple)
                    self.assertTrue(all(isinstance(entry, int) for entry in vector))
                    self.assertEqual(len(vector), d)
                    self.assertTrue(all(product_of(vector, generator) > 0 for generator in generators))
                found.add((d, vector is None))
        self.assertEqual(len(found), 10)

    def test_known(self):
        self.assertIsNone(pointing(1, [(1,), (-2,)]))
        self.assertIsNone(pointing(2, [(1, 2), (-2, -4)]))
        self.assertIsNone(pointing(2, [(1, 0), (-1, 1), (0, -1)]))
        self.assertIsNotNone(pointing(2, [(1, 2), (2, 4)]))
        self.assertIsNone(pointing(3, [(1, 0, 0), (0, 1, 0), (-1, -1, 0), (0, 0, 1)]))
        self.assertGreater(pointing(1, [(5,)])[0], 0)
        self.assertLess(pointing(1, [(-5,), (-1,)])[0], 0)


class BasicVectorsTest(unittest.TestCase):
    def test_known(self):
        self.assertEqual(basic_vectors(2, [(1, 0), (1, 2)]), [(1, 0), (1, 1), (1, 2)])
        self.assertEqual(basic_vectors(1, [(5,), (3,)]), [(1,)])
        self.assertEqual(basic_vectors(1, [(-5,)]), [(-1,)])
        self.assertEqual(basic_vectors(2, [(4, 6)]), [(2, 3)])
        self.assertEqual(basic_vectors(2, [(4, 6), (2, 3), (4, 6)]), [(2, 3)])
        self.assertEqual(basic_vectors(2, [(1, 0), (5, 7)]), [(1, 0), (1, 1), (3, 4), (5, 7)])
        self.assertEqual(basic_vectors(2, [(0, -1), (3, 2)]), [(0, -1), (1, 0), (2, 1), (3, 2)])
        for d in range(1, 6):
            axes = [(0,) * k + (1,) + (0,) * (d - k - 1) for k in range(d)]
            self.assertEqual(basic_vectors(d, axes), sorted(axes))
            self.assertEqual(basic_vectors(d, [tuple(-7 * entry for entry in axis) for axis in axes]),
                             sorted(tuple(-entry for entry in axis) for axis in axes))
            self.assertEqual(basic_vectors(d, axes + [(1,) * d]), sorted(axes))
        self.assertEqual(basic_vectors(4, REEVE), sorted(REEVE + [(2, 1, 1, 1)]))

    def test_generators_in_a_plane(self):
        self.assertEqual(basic_vectors(3, [(1, 1, 0), (1, -1, 0)]), [(1, -1, 0), (1, 0, 0), (1, 1, 0)])
        self.assertEqual(basic_vectors(3, [(2, 4, 6)]), [(1, 2, 3)])
        self.assertEqual(basic_vectors(3, [(1, 2, 3), (3, 2, 1)]), [(1, 1, 1), (1, 2, 3), (3, 2, 1)])
        self.assertEqual(basic_vectors(5, [(0, 0, 3, 0, 6), (0, 0, 1, 0, 0)]), [(0, 0, 1, 0, 0), (0, 0, 1, 0, 1),
                                                                            (0, 0, 1, 0, 2)])

    def test_random(self):
        source = source_of(422)
        for d, many, most in ((1, 2, 9), (2, 2, 6), (2, 4, 4), (3, 2, 3), (3, 3, 2), (3, 4, 2), (4, 2, 2), (4, 3, 1),
                              (4, 4, 1), (5, 2, 1), (5, 3, 1)):
            for _ in range(5 if many < 4 else 2):
                generators = some_pointed(source, d, many, most)
                given = list(generators)
                found = basic_vectors(d, generators)
                self.assertEqual(generators, given)
                self.assertEqual(found, basic_by_words(generators), generators)

    def test_cones_with_great_boxes(self):
        # All vectors between two, and those at the border of the hull of the others.
        self.assertEqual(basic_vectors(2, [(1, 0), (1, 9999)]), [(1, k) for k in range(10000)])
        self.assertEqual(basic_vectors(2, [(0, 1), (9999, 1)]), [(0, 1), (1, 1)] + [(k, 1) for k in range(2, 10000)])
        self.assertEqual(basic_vectors(2, [(0, 1), (9999, 9998)]), [(0, 1), (1, 1), (9999, 9998)])
        source = source_of(423)
        for _ in range(8):
            first, second = some_pointed(source, 2, 2, 9999)[:2]
            if rank_by_words([first, second]) == 2:
                self.assert_border(first, second, basic_vectors(2, [first, second]))

    def assert_border(self, first, second, found):
        """Assert that each two neighbours around the cone have the determinant 1, and that none can be left out."""
        if first[0] * second[1] < first[1] * second[0]:
            first, second = second, first
        row = sorted(found, key=Slope)
        for start, end in ((row[0], first), (row[-1], second)):
            self.assertEqual(tuple(entry // math.gcd(*end) for entry in end), start)
        for a, b in zip(row, row[1:]):
            self.assertEqual(a[0] * b[1] - a[1] * b[0], 1)
        for a, b, c in zip(row, row[1:], row[2:]):
            self.assertNotEqual((a[0] + c[0], a[1] + c[1]), b)

    def test_sums_of_basic_vectors(self):
        source = source_of(424)
        for d, many, most in ((3, 3, 12), (3, 5, 9), (4, 4, 4), (4, 6, 3), (5, 5, 2), (5, 7, 2)):
            generators = some_pointed(source, d, many, most)
            found = basic_vectors(d, generators)
            self.assertEqual(found, sorted(set(found)))
            self.assertTrue(all(in_cone_by_words(generators, vector) for vector in found))
            # None of them is a sum of others, and each vector of the cone is one.
            heights = facets_of_cone(d, generators)
            for first, second in itertools.permutations(found, 2):
                step = tuple(a - b for a, b in zip(first, second))
                self.assertFalse(heights is not None and satisfied(heights, step))
            for _ in range(20):
                vector = weighted([source.randint(0, 5) for _ in generators], generators)
                self.assertEqual(weighted(as_sum(d, generators, vector), found), vector)

    def test_not_pointed(self):
        for d, generators in ((1, [(1,), (-1,)]), (2, [(1, 2), (-2, -4)]), (2, [(1, 0), (-1, 1), (0, -1)]),
                              (3, [(1, 0, 0), (0, 1, 0), (-1, -1, 0)]), (5, [(1, 0, 0, 0, 0), (-3, 0, 0, 0, 0)])):
            self.assertRaises(NotPointed, basic_vectors, d, generators)
            self.assertRaises(NotPointed, as_sum, d, generators, (0,) * d)
            self.assertRaises(NotPointed, as_sum, d, generators, generators[0])


class Slope:
    """Orders vectors around a cone that is pointed."""

    def __init__(self, vector):
        self.vector = vector

    def __lt__(self, other):
        return self.vector[0] * other.vector[1] > self.vector[1] * other.vector[0]


def facets_of_cone(d, generators):
    """Return the forms around a cone of the full rank, or None."""
    if rank_by_words(generators) < d:
        return None
    return facets_by_words(d - 1, generators)


class AsSumTest(unittest.TestCase):
    def test_random(self):
        source = source_of(425)
        found = set()
        for d in range(1, 6):
            for _ in range(12):
                generators = some_pointed(source, d, source.randint(1, min(d + 1, 4)), 3 if d < 4 else 2)
                basics = basic_vectors(d, generators)
                vectors = [some_row(source, d, 5), (0,) * d, source.choice(basics), generators[-1]]
                vectors.append(weighted([source.randint(0, 9) for _ in generators], generators))
                vectors.append(weighted([source.randint(0, 3) for _ in basics], basics))
                for vector in vectors:
                    weights = as_sum(d, generators, vector)
                    inside = in_cone_by_words(generators, vector)
                    self.assertEqual(weights is not None, inside)
                    if inside:
                        self.assertIsInstance(weights, tuple)
                        self.assertEqual(len(weights), len(basics))
                        self.assertTrue(all(isinstance(k, int) and k >= 0 for k in weights))
                        self.assertEqual(weighted(weights, basics), vector)
                    found.add((d, inside))
        self.assertEqual(len(found), 10)

    def test_known(self):
        self.assertEqual(as_sum(2, [(1, 0), (1, 2)], (0, 0)), (0, 0, 0))
        self.assertIsNone(as_sum(2, [(1, 0), (1, 2)], (1, 3)))
        self.assertIsNone(as_sum(2, [(1, 0), (1, 2)], (-1, -1)))
        self.assertEqual(as_sum(1, [(5,)], (12,)), (12,))
        self.assertIsNone(as_sum(1, [(5,)], (-12,)))
        # Outside of the plane of the generators, and in it.
        self.assertIsNone(as_sum(3, [(1, 1, 0), (1, -1, 0)], (2, 0, 1)))
        self.assertEqual(as_sum(3, [(1, 1, 0), (1, -1, 0)], (1, 0, 0)), (0, 1, 0))
        self.assertEqual(as_sum(2, [(2, 4)], (3, 6)), (3,))
        self.assertIsNone(as_sum(2, [(2, 4)], (3, 5)))
        weights = as_sum(2, [(1, 0), (5, 7)], (9999 * 9999, 9999 * 9998))
        self.assertEqual(weighted(weights, [(1, 0), (1, 1), (3, 4), (5, 7)]), (9999 * 9999, 9999 * 9998))


def sums_of_points(points, t):
    """Return the set of the sums of t lattice points, coordinate by coordinate."""
    found = {(0,) * (len(points[0]) - 1)}
    for _ in range(t):
        found = {tuple(a + b for a, b in zip(spot, point[1:])) for spot in found for point in points}
    return found


def normal_by_words(P):
    """Tell whether a lattice polytope is normal: it is enough to ask of the multiples up to d - 1."""
    d = P.dimension()
    points = lattice_by_words(d, P.vertices(), False)
    for t in range(2, max(3, d)):
        spots = {point[1:] for point in lattice_by_words(d, scaled(P, (t, 1)).vertices(), False)}
        if sums_of_points(points, t) != spots:
            return False
    return True


class NormalTest(unittest.TestCase):
    def test_known(self):
        for d in range(1, 5):
            for P in (cube(d), cross(d), simplex(d), scaled(simplex(d), (2, 1)), shifted(cube(d), (1,) + (7,) * d)):
                self.assertIs(is_normal(P), True)
                self.assertEqual(sum_gap(P), [])
        P = hull(3, REEVE)
        self.assertIs(is_normal(P), False)
        self.assertEqual(sum_gap(P), [(2, 1, 1, 1)])
        # Twice it has all its sums.
        self.assertIs(is_normal(scaled(P, (2, 1))), True)
        for height in (2, 3, 7):
            P = hull(3, REEVE[:3] + [(1, 1, 1, height)])
            self.assertEqual(sum_gap(P), [(2, 1, 1, k) for k in range(1, height)])
            Q = moved(P, some_unimodular_map(source_of(height), 3))
            self.assertIs(is_normal(Q), False)
            self.assertEqual(len(sum_gap(Q)), height - 1)
        P = hull(4, [(1, 0, 0, 0, 0), (1, 1, 0, 0, 0), (1, 0, 1, 0, 0), (1, 0, 0, 1, 0), (1, 1, 1, 1, 3)])
        self.assertIs(is_normal(P), False)
        self.assertEqual(sum_gap(P), [(2, 1, 1, 1, 2), (3, 1, 1, 1, 1)])

    def test_random(self):
        source = source_of(426)
        found = set()
        for d, many, most in ((1, 2, 9), (2, 3, 4), (2, 6, 4), (3, 4, 1), (3, 4, 2), (3, 5, 1), (3, 5, 2), (4, 5, 1),
                              (4, 6, 1)):
            for _ in range(6):
                P = lattice_polytope(source, d, many, most)
                answer = normal_by_words(P)
                self.assertIs(is_normal(P), answer)
                self.assertEqual(sum_gap(P) == [], answer)
                basics = basic_vectors(d + 1, P.vertices())
                self.assertEqual(sum_gap(P), [vector for vector in basics if vector[0] > 1])
                self.assertEqual([vector for vector in basics if vector[0] == 1],
                                 lattice_by_words(d, P.vertices(), False))
                found.add((d, answer))
        self.assertEqual(found, {(1, True), (2, True), (3, True), (3, False), (4, True), (4, False)})

    def test_greater_ones(self):
        self.assertIs(is_normal(scaled(cube(3), (4, 1))), True)
        self.assertIs(is_normal(scaled(cross(4), (2, 1))), True)
        self.assertIs(is_normal(cyclic(3, 5)), True)
        self.assertEqual(len(sum_gap(cyclic(4, 5))), 2)

    def test_not_lattice(self):
        for P in (hull(1, [(2, 1), (1, 7)]), scaled(cube(2), (1, 2)), scaled(cube(3), (1, 2)),
                  scaled(simplex(4), (2, 3))):
            self.assertRaises(NotLattice, is_normal, P)
            self.assertRaises(NotLattice, sum_gap, P)
