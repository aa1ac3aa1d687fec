"""Points 9.1 and 9.5: lattice points."""

import math
import unittest
from fractions import Fraction

from hullwright.errors import Empty, Flat
from hullwright.known import cross, cube, cyclic, simplex
from hullwright.lattice import (
    count, inner_count, inner_lattice_points, lattice_hull, lattice_points, lattice_width)
from hullwright.making import moved, scaled, shifted
from hullwright.polytopes import common_part, hull, same
from tests.samples import image_by_words, lattice_polytope, random_polytope, samples
from tests.support import (
    axis_row, box_rows, exact, is_flat_list, lattice_by_words, pair_of, satisfied_everywhere, some_row, source_of,
    tight_everywhere, vertices_by_words)


def unimodular_map(source, d, steps):
    """Return a random map of integers with the determinant 1 or -1, which may be very skew."""
    rows = [[1] + list(some_row(source, d, 9))] + [list(axis_row(d, 0, k, 1)) for k in range(d)]
    for _ in range(steps):
        if d > 1:
            i, k = source.sample(range(1, d + 1), 2)
            factor = source.randint(-9, 9)
            rows[i] = [a + factor * b for a, b in zip(rows[i], rows[k])]
    return [tuple(row) for row in rows]


class LatticePointsTest(unittest.TestCase):
    def assert_points(self, P, points, inner):
        self.assertEqual(lattice_points(P), points)
        self.assertEqual(inner_lattice_points(P), inner)
        self.assertIsInstance(lattice_points(P), list)
        self.assertEqual(count(P), len(points))
        self.assertEqual(inner_count(P), len(inner))

    def assert_by_words(self, P):
        d = P.dimension()
        self.assert_points(P, lattice_by_words(d, P.vertices(), False), lattice_by_words(d, P.vertices(), True))

    def test_known(self):
        self.assertEqual(count(cross(2)), 5)
        self.assert_points(cross(2), [(1, -1, 0), (1, 0, -1), (1, 0, 0), (1, 0, 1), (1, 1, 0)], [(1, 0, 0)])
        for d in range(1, 5):
            self.assertEqual((count(cube(d)), inner_count(cube(d))), (3 ** d, 1))
            self.assertEqual((count(simplex(d)), inner_count(simplex(d))), (d + 1, 0))
            self.assertEqual((count(cross(d)), inner_count(cross(d))), (2 * d + 1, 1))
        self.assert_points(hull(1, [(2, -5), (3, 7)]), [(1, -2), (1, -1), (1, 0), (1, 1), (1, 2)],
                           [(1, -2), (1, -1), (1, 0), (1, 1), (1, 2)])
        self.assert_points(hull(1, [(1, -1), (1, 2)]), [(1, -1), (1, 0), (1, 1), (1, 2)], [(1, 0), (1, 1)])

    def test_samples(self):
        for d in range(1, 5):
            for P in samples(d, 171):
                if all(abs(x) <= (20 if d < 4 else 5) for vertex in P.vertices() for x in exact(vertex)):
                    self.assert_by_words(P)

    def test_fractions(self):
        source = source_of(172)
        for d in range(1, 5):
            for _ in range(8 if d < 4 else 3):
                P = random_polytope(source, d, d + 3, 5)
                self.assert_by_words(P)
                self.assert_by_words(scaled(P, (1, 3)))

    def test_none(self):
        for d in range(1, 5):
            third = scaled(simplex(d), (1, 3 * d))
            away = shifted(third, (2,) + (1,) * d)
            self.assert_points(away, [], [])
            self.assert_points(shifted(away, (1,) + (9999,) * d), [], [])
            # Between two planes without lattice points.
            rows = box_rows(d, 50) + [(-1,) + (3,) * d, (2,) + (-3,) * d]
            self.assert_points(common_part(d, rows), [], [])

    def test_common_plane(self):
        for d in range(2, 5):
            P = common_part(d, box_rows(d, 1)[2:] + [axis_row(d, 1, 0, 3), axis_row(d, 1, 0, -3)])
            points = [(1, 0) + rest[1:] for rest in lattice_points(cube(d - 1))]
            self.assert_points(P, points, [(1,) + (0,) * d])

    def test_skew_images(self):
        source = source_of(173)
        for d in range(1, 5):
            for P in (scaled(cross(d), (3, 2)), simplex(d), cube(d), lattice_polytope(source, d, d + 2, 2)):
                rows = unimodular_map(source, d, 12)
                self.assertEqual(lattice_points(moved(P, rows)),
                                 sorted(image_by_words(rows, point) for point in lattice_points(P)))
                self.assertEqual(inner_lattice_points(moved(P, rows)),
                                 sorted(image_by_words(rows, point) for point in inner_lattice_points(P)))
                self.assertEqual(count(moved(P, rows)), count(P))
                self.assertEqual(inner_count(moved(P, rows)), inner_count(P))

    def test_thin_ones_end_soon(self):
        # Wide in all coordinates, but with few lattice points and a small volume.
        plate = hull(3, [(1, 0, 0, 0), (1, 9999, 1, 4321), (1, 2, 9998, 1235), (1, 1029, -216, 418)])
        self.assert_points(plate, plate.vertices(), [])
        needle = hull(3, [(1, 0, 0, 0), (1, 0, 0, 1), (1, 0, 1, 0), (1, 9999, 1, 1)])
        self.assert_points(needle, needle.vertices(), [])
        # The sum of the coordinates is between 1/3 and 2/3.
        slab = hull(4, [(3, 1, 0, 0, 0), (3, 2, 0, 0, 0), (3, 9999, 0, 0, -9998), (3, 1, 9998, 0, -9998),
                        (3, 1, 0, 9998, -9998)])
        self.assert_points(slab, [], [])

    def test_many(self):
        P = hull(2, [(1, -9999, 12), (1, 9998, -7777), (1, 3, 9999)])
        area = abs((9998 + 9999) * (9999 - 12) - (-7777 - 12) * (3 + 9999))
        sides = [(-9999 - 9998, 12 + 7777), (9998 - 3, -7777 - 9999), (3 + 9999, 9999 - 12)]
        border = sum(math.gcd(*side) for side in sides)
        # The area is that of the points inside, half of those on the border, less 1.
        self.assertEqual(2 * inner_count(P) + border - 2, area)
        self.assertEqual(count(P) - inner_count(P), border)
        self.assertEqual(count(hull(1, [(1, -10 ** 30), (3, 10 ** 30)])), 10 ** 30 + 10 ** 30 // 3 + 1)
        self.assertEqual(count(scaled(cube(4), (5, 1))), 11 ** 4)


class LatticeHullTest(unittest.TestCase):
    def assert_hull(self, P):
        d = P.dimension()
        points = lattice_by_words(d, P.vertices(), False)
        if points == []:
            self.assertRaises(Empty, lattice_hull, P)
            return "empty"
        if is_flat_list(d, points):
            with self.assertRaises(Flat) as caught:
                lattice_hull(P)
            self.assertTrue(tight_everywhere(d, caught.exception.inequality, points))
            return "flat"
        Q = lattice_hull(P)
        self.assertEqual(Q.dimension(), d)
        self.assertTrue(set(Q.vertices()) <= set(points))
        self.assertTrue(all(satisfied_everywhere(facet, points) for facet in Q.facets()))
        if len(points) < 15:
            self.assertEqual(Q.vertices(), vertices_by_words(d, points))
        self.assertEqual(lattice_points(Q), points)
        return "polytope"

    def test_random(self):
        source = source_of(174)
        words = []
        for d in range(1, 5):
            for _ in range(12 if d < 4 else 5):
                words.append(self.assert_hull(random_polytope(source, d, d + 2, source.choice([2, 4]))))
                words.append(self.assert_hull(scaled(random_polytope(source, d, d + 2, 3), (2, 3))))
        self.assertEqual(set(words), {"empty", "flat", "polytope"})

    def test_known(self):
        for d in range(1, 5):
            self.assertTrue(same(lattice_hull(cyclic(d, d + 1)), cyclic(d, d + 1)))
            self.assertTrue(same(lattice_hull(scaled(cube(d), (8, 5))), cube(d)))
            self.assertTrue(same(lattice_hull(scaled(cross(d), (8, 5))), cross(d)))
            self.assertRaises(Empty, lattice_hull, shifted(scaled(cube(d), (1, 3)), (2,) + (1,) * d))
            with self.assertRaises(Flat) as caught:
                lattice_hull(scaled(cube(d), (1, 3)))
            self.assertEqual(caught.exception.inequality[0], 0)
        wide = hull(2, [(2, -9999, -9999), (2, 9999, -9999), (2, 1, 9999)])
        self.assertEqual(count(wide), count(lattice_hull(wide)))


class LatticeWidthTest(unittest.TestCase):
    def test_known(self):
        self.assertEqual(lattice_width(cube(2), (1, 0)), (2, 1))
        self.assertEqual(lattice_width(cube(2), (3, -2)), (10, 1))
        self.assertEqual(lattice_width(cross(3), (1, 1, 1)), (2, 1))
        self.assertEqual(lattice_width(simplex(4), (1, -7, 3, 2)), (10, 1))
        self.assertEqual(lattice_width(hull(1, [(3, 1), (2, 1)]), (-4,)), (2, 3))

    def test_random(self):
        source = source_of(175)
        for d in range(1, 5):
            for P in samples(d, 176, 2):
                direction = some_row(source, d, 9)
                if any(direction):
                    values = [sum(a * x for a, x in zip(direction, exact(vertex))) for vertex in P.vertices()]
                    width = pair_of(Fraction(max(values) - min(values)))
                    self.assertEqual(lattice_width(P, direction), width)
                    self.assertEqual(lattice_width(P, tuple(-b for b in direction)), width)
