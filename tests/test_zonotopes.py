"""Part 15: zonotopes, sign rows, and centres."""

import itertools
import math
import unittest
from fractions import Fraction

from hullwright.errors import Flat
from hullwright.faces import faces
from hullwright.known import cross, cube, cyclic, simplex
from hullwright.making import moved, summed
from hullwright.optimum import best_face
from hullwright.polytopes import hull, same
from hullwright.zonotopes import has_centre, sign_rows, zone_count, zone_volume, zonotope
from tests.samples import assert_is_hull, lattice_polytope, lists_of, samples, some_map
from tests.support import (
    det_by_words, exact, point_of, product_of, rank_by_words, satisfied, some_row, source_of, tight_everywhere,
    volume_by_words)


def sums_by_words(d, vectors):
    """Return the sums of all choices of the vectors, as points."""
    found = {(1,) + (0,) * d}
    for vector in vectors:
        found |= {(1,) + tuple(a + b for a, b in zip(point[1:], vector)) for point in found}
    return sorted(found)


def some_vectors(source, d, many, most):
    """Return random vectors, none of them of zeros, whose rank is d; some may be equal or opposite."""
    while True:
        vectors = [some_row(source, d, most) for _ in range(many)]
        if many > d and source.random() < 0.4:
            vectors[0] = source.choice(vectors)
        if many > d and source.random() < 0.4:
            vectors[1] = tuple(-2 * entry for entry in source.choice(vectors))
        if all(any(vector) for vector in vectors) and rank_by_words(vectors) == d:
            return vectors


def sign(number):
    """Return the sign of a number."""
    return (number > 0) - (number < 0)


def rows_of_forms(d, vectors, most):
    """Return the sign rows of all forms of integers up to a number."""
    return {tuple(sign(product_of(form, vector)) for vector in vectors)
            for form in itertools.product(range(-most, most + 1), repeat=d)}


class ZonotopeTest(unittest.TestCase):
    def test_random(self):
        source = source_of(341)
        for d in range(1, 5):
            for many in range(d, 6):
                vectors = some_vectors(source, d, many, 3)
                given = list(vectors)
                Z = zonotope(d, vectors)
                self.assertEqual(vectors, given)
                assert_is_hull(self, Z, d, sums_by_words(d, vectors))
                self.assertEqual(lists_of(Z), lists_of(hull(d, sums_by_words(d, vectors))))

    def test_as_a_sum_of_segments(self):
        source = source_of(342)
        for d in (2, 3, 4):
            first, second = some_vectors(source, d, d, 9999), some_vectors(source, d, d, 9999)
            Z = zonotope(d, first + second)
            self.assertTrue(same(Z, summed(zonotope(d, first), zonotope(d, second))))

    def test_known(self):
        for d in range(1, 5):
            axes = [(0,) * k + (1,) + (0,) * (d - k - 1) for k in range(d)]
            Z = zonotope(d, axes)
            self.assertEqual(Z.vertices(), sums_by_words(d, axes))
            self.assertEqual(len(Z.vertices()), 2 ** d)
            # Equal and opposite vectors only make it longer.
            longer = zonotope(d, axes + axes + [tuple(-entry for entry in axes[0])])
            self.assertEqual(len(longer.vertices()), 2 ** d)
            self.assertEqual(longer.vertices()[0], (1, -1) + (0,) * (d - 1))
            self.assertEqual(longer.vertices()[-1], (1, 2) + (2,) * (d - 1))
        self.assertEqual(zonotope(1, [(3,)]).vertices(), [(1, 0), (1, 3)])
        self.assertEqual(zonotope(1, [(-3,)]).vertices(), [(1, -3), (1, 0)])
        self.assertEqual(zonotope(1, [(3,), (-2,)]).vertices(), [(1, -2), (1, 3)])
        self.assertEqual(zonotope(1, [(3,), (-2,)]).facets(), [(2, 1), (3, -1)])
        self.assertEqual(zonotope(2, [(1, 0), (0, 1), (1, 1)]).vertices(),
                         [(1, 0, 0), (1, 0, 1), (1, 1, 0), (1, 1, 2), (1, 2, 1), (1, 2, 2)])

    def test_flat(self):
        for d, vectors in ((2, [(1, 2)]), (2, [(1, 2), (-2, -4)]), (3, [(1, 0, 0), (0, 1, 0), (1, 1, 0)]),
                           (3, [(1, 2, 3)]), (4, [(1, 0, 0, 0), (0, 1, 0, 0), (0, 0, 1, 0)]),
                           (4, [(1, 1, 1, 1), (1, 1, 1, 1)])):
            with self.assertRaises(Flat) as caught:
                zonotope(d, vectors)
            self.assertTrue(tight_everywhere(d, caught.exception.inequality, sums_by_words(d, vectors)))


class SignRowsTest(unittest.TestCase):
    def test_examples(self):
        self.assertEqual(sign_rows(1, [(1,), (-2,)]), [(-1, 1), (0, 0), (1, -1)])
        self.assertEqual(sign_rows(1, [(5,)]), [(-1,), (0,), (1,)])
        self.assertEqual(sign_rows(2, [(1, 0), (0, 1)]), sorted(itertools.product((-1, 0, 1), repeat=2)))
        self.assertEqual(sign_rows(4, [(1, 2, 3, 4)]), [(-1,), (0,), (1,)])

    def test_all_forms(self):
        source = source_of(343)
        for d, many, most, reach in ((1, 3, 9, 1), (2, 2, 2, 8), (2, 4, 2, 8), (2, 5, 2, 8), (3, 3, 1, 8), (3, 4, 1, 8),
                                     (3, 5, 1, 8), (4, 4, 1, 3)):
            for _ in range(2):
                vectors = some_vectors(source, d, many, most)
                found = sign_rows(d, vectors)
                right = rows_of_forms(d, vectors, reach)
                self.assertEqual(found, sorted(set(found)))
                self.assertTrue(right <= set(found))
                # The faces tell how many there are, so that no row is of no form.
                self.assertEqual(len(found), sum(len(row) for row in faces(zonotope(d, vectors))[1:]))
                self.assertEqual(len([row for row in found if 0 not in row]), len(zonotope(d, vectors).vertices()))
                if (d, most) != (4, 1):
                    self.assertEqual(right, set(found))

    def test_less_than_the_full_rank(self):
        for d, vectors in ((2, [(1, 2), (-2, -4)]), (3, [(1, 0, 0), (0, 1, 0), (1, 1, 0)]), (3, [(1, 2, 1)]),
                           (3, [(0, 1, 1), (0, 1, -1), (0, 2, 1), (0, 0, 1)])):
            self.assertEqual(sign_rows(d, vectors), sorted(rows_of_forms(d, vectors, 6)))

    def test_faces(self):
        source = source_of(344)
        for d, many, reach in ((1, 2, 2), (2, 4, 8), (3, 4, 5)):
            vectors = some_vectors(source, d, many, 1)
            Z = zonotope(d, vectors)
            places = {}
            for form in itertools.product(range(-reach, reach + 1), repeat=d):
                row = tuple(sign(product_of(form, vector)) for vector in vectors)
                face = best_face(Z, form)
                self.assertEqual(places.setdefault(row, face), face)
            self.assertEqual(len(set(places.values())), len(places))
            self.assertEqual(places[(0,) * many], tuple(range(len(Z.vertices()))))
            self.assertEqual(sign_rows(d, vectors), sorted(places))


class ZoneTest(unittest.TestCase):
    def test_volume(self):
        source = source_of(345)
        for d in range(1, 5):
            for many in (d, d + 1, d + 2):
                vectors = some_vectors(source, d, many, 3)
                right = volume_by_words(d, sums_by_words(d, vectors))
                self.assertEqual(zone_volume(d, vectors), right)
                self.assertIsInstance(zone_volume(d, vectors), int)
        self.assertEqual(zone_volume(2, [(1, 0), (0, 1), (1, 1)]), 3)
        self.assertEqual(zone_volume(2, [(1, 0), (1, 0), (0, 1)]), 2)
        self.assertEqual(zone_volume(2, [(1, 2), (2, 4)]), 0)
        self.assertEqual(zone_volume(3, [(1, 2, 3)]), 0)
        self.assertEqual(zone_volume(1, [(4,), (-9,)]), 13)

    def test_count(self):
        source = source_of(346)
        for d in range(1, 5):
            for many in (d, d + 1, d + 2):
                vectors = some_vectors(source, d, many, 4 if d < 3 else 2 if d == 3 else 1)
                Z = zonotope(d, vectors)
                ranges = [range(min(column), max(column) + 1) for column in list(zip(*Z.vertices()))[1:]]
                right = sum(satisfied(Z.facets(), (1,) + spot) for spot in itertools.product(*ranges))
                self.assertEqual(zone_count(d, vectors), right)
        self.assertEqual(zone_count(2, [(1, 0), (0, 1), (1, 1)]), 7)
        self.assertEqual(zone_count(1, [(4,), (-9,)]), 14)
        self.assertEqual(zone_count(2, [(2, 0), (0, 3)]), 12)
        self.assertEqual(zone_count(2, [(1, 0), (1, 0), (0, 1)]), 6)

    def test_count_by_words(self):
        source = source_of(347)
        for d in range(1, 5):
            for many in (1, d, d + 3):
                vectors = [some_row(source, d, 9999) for _ in range(many)]
                right = 0
                for chosen in itertools.chain.from_iterable(
                        itertools.combinations(vectors, k) for k in range(many + 1)):
                    if chosen == ():
                        right += 1
                    elif rank_by_words(chosen) == len(chosen):
                        right += common_divisor_of_minors(d, chosen)
                self.assertEqual(zone_count(d, vectors), right)


def common_divisor_of_minors(d, rows):
    """Return the greatest common divisor of the determinants of the square parts."""
    return math.gcd(*[det_by_words([[row[k] for k in columns] for row in rows])
                      for columns in itertools.combinations(range(d), len(rows))])


class CentreTest(unittest.TestCase):
    def assert_centre(self, P):
        centre = has_centre(P)
        vertices = [exact(vertex) for vertex in P.vertices()]
        middle = [sum(column) / len(vertices) for column in zip(*vertices)]
        mirrored = {tuple(2 * c - x for c, x in zip(middle, vertex)) for vertex in vertices}
        if mirrored == set(vertices):
            self.assertEqual(centre, point_of(middle))
        else:
            self.assertIsNone(centre)
        return centre is not None

    def test_random(self):
        source = source_of(348)
        found = set()
        for d in range(1, 5):
            for P in samples(d, 349):
                found.add((d, self.assert_centre(P)))
                found.add((d, self.assert_centre(moved(P, some_map(source, d, 4)))))
            for many in (d, d + 2):
                Z = zonotope(d, some_vectors(source, d, many, 4))
                self.assertTrue(self.assert_centre(Z))
                self.assertTrue(self.assert_centre(moved(Z, some_map(source, d, 4))))
            P = lattice_polytope(source, d, d + 2, 3)
            mirrored = [(1,) + tuple(5 - entry for entry in vertex[1:]) for vertex in P.vertices()]
            self.assertEqual(has_centre(hull(d, P.vertices() + mirrored)), point_of([Fraction(5, 2)] * d))
        self.assertEqual(found, {(1, True), (2, True), (2, False), (3, True), (3, False), (4, True), (4, False)})

    def test_known(self):
        self.assertEqual(has_centre(cube(3)), (1, 0, 0, 0))
        self.assertEqual(has_centre(cross(4)), (1, 0, 0, 0, 0))
        self.assertEqual(has_centre(simplex(1)), (2, 1))
        self.assertIsNone(has_centre(simplex(2)))
        self.assertIsNone(has_centre(cyclic(2, 6)))
        # Some vertices have a mirror image at their middle, and others have none.
        spots = [(0, 6), (0, -6), (3, 3), (3, -3), (-6, 0)]
        self.assertIsNone(has_centre(hull(2, [(1,) + spot for spot in spots])))
        self.assertEqual(has_centre(zonotope(2, [(1, 0), (0, 1), (1, 1)])), (1, 1, 1))
