"""Points 9.2 to 9.4: the numbers of lattice points in multiples."""

import itertools
import math
import unittest
from fractions import Fraction

from hullwright.cells import triangulation
from hullwright.ehrhart import box_points, ehrhart, ehrhart_value, h_star
from hullwright.errors import NotLattice
from hullwright.known import cross, cube, cyclic, simplex
from hullwright.lattice import count, inner_count
from hullwright.making import moved, scaled, shifted
from hullwright.polytopes import hull
from hullwright.volumes import volume
from tests.samples import known_polytopes, lattice_polytope
from tests.support import (
    det_by_words, divided, kernel_by_words, lattice_by_words, pair_of, product_of, reduced_form, source_of, weighted,
    whole, whole_row)


def lattice_samples(d, number, many=4):
    """Return lattice polytopes of a dimension."""
    source = source_of(number)
    most = {1: 9, 2: 5, 3: 3, 4: 2}[d]
    found = known_polytopes(d) if d < 4 else [cube(d), cross(d), simplex(d)]
    return found + [lattice_polytope(source, d, source.randint(d + 1, d + 4), most) for _ in range(many)]


def not_lattice(d):
    """Return polytopes that are no lattice polytopes."""
    return [scaled(cube(d), (1, 2)), shifted(simplex(d), (2,) + (1,) * d), scaled(simplex(d), (5, 3)),
            hull(d, cube(d).vertices() + [(2,) + (3,) * d])]


class EhrhartTest(unittest.TestCase):
    def test_known(self):
        self.assertEqual(ehrhart(cube(2)), [(1, 1), (4, 1), (4, 1)])
        self.assertEqual(ehrhart(simplex(1)), [(1, 1), (1, 1)])
        self.assertEqual(ehrhart(simplex(2)), [(1, 1), (3, 2), (1, 2)])
        self.assertEqual(ehrhart(cross(3)), [(1, 1), (8, 3), (2, 1), (4, 3)])
        self.assertEqual(ehrhart(cube(4)), [(1, 1), (8, 1), (24, 1), (32, 1), (16, 1)])
        # A coefficient may be negative.
        thin = hull(3, [(1, 0, 0, 0), (1, 1, 0, 0), (1, 0, 1, 0), (1, 1, 1, 13)])
        self.assertEqual(ehrhart(thin), [(1, 1), (-1, 6), (1, 1), (13, 6)])

    def test_by_words(self):
        for d in range(1, 5):
            for P in lattice_samples(d, 181):
                found = ehrhart(P)
                self.assertIsInstance(found, list)
                self.assertEqual(len(found), d + 1)
                self.assertEqual(found[0], (1, 1))
                self.assertEqual(found[d], volume(P))
                for t in range(1, 4 if d < 4 else 3):
                    spots = [(1,) + tuple(t * x for x in vertex[1:]) for vertex in P.vertices()]
                    if d < 3 or (d == 3 and t < 3) or t == 1:
                        self.assertEqual(ehrhart_value(found, t), len(lattice_by_words(d, spots, False)))
                        self.assertEqual((-1) ** d * ehrhart_value(found, -t), len(lattice_by_words(d, spots, True)))
                for t in range(1, 5):
                    self.assertEqual(ehrhart_value(found, t), count(scaled(P, (t, 1))))
                    self.assertEqual((-1) ** d * ehrhart_value(found, -t), inner_count(scaled(P, (t, 1))))

    def test_large(self):
        rows = [(1, 5, -3, 2), (0, 9, 4, 1), (0, 2, 1, 0), (0, 101, 47, 8)]
        self.assertEqual(abs(det_by_words(rows)), 1)
        self.assertEqual(ehrhart(moved(cross(3), rows)), ehrhart(cross(3)))
        self.assertEqual(ehrhart(scaled(cube(3), (5, 1))), [(1, 1), (30, 1), (300, 1), (1000, 1)])
        self.assertEqual(ehrhart(hull(1, [(1, 0), (1, 10 ** 40)])), [(1, 1), (10 ** 40, 1)])

    def test_value(self):
        self.assertEqual(ehrhart_value([(1, 1), (3, 2), (1, 2)], 0), 1)
        self.assertEqual([ehrhart_value([(1, 1), (3, 2), (1, 2)], t) for t in range(1, 6)], [3, 6, 10, 15, 21])
        self.assertEqual(ehrhart_value([(1, 1), (3, 2), (1, 2)], -1), 0)
        self.assertEqual(ehrhart_value([(1, 1), (3, 2), (1, 2)], -3), 1)
        for t in (10 ** 30, -10 ** 30):
            found = ehrhart_value(ehrhart(cyclic(3, 5)), t)
            self.assertTrue(whole(found))
            exact = sum(Fraction(*c) * t ** k for k, c in enumerate(ehrhart(cyclic(3, 5))))
            self.assertEqual(found, exact)

    def test_not_lattice(self):
        for d in range(1, 5):
            for P in not_lattice(d):
                self.assertRaises(NotLattice, ehrhart, P)
                self.assertRaises(NotLattice, h_star, P)


class HStarTest(unittest.TestCase):
    def test_known(self):
        self.assertEqual(h_star(cube(2)), [1, 6, 1])
        for d in range(1, 5):
            self.assertEqual(h_star(simplex(d)), [1] + [0] * d)
            self.assertEqual(h_star(cross(d)), [math.comb(d, k) for k in range(d + 1)])
        self.assertEqual(h_star(hull(3, [(1, 0, 0, 0), (1, 1, 0, 0), (1, 0, 1, 0), (1, 1, 1, 13)])), [1, 0, 12, 0])

    def test_by_words(self):
        for d in range(1, 5):
            for P in lattice_samples(d, 182):
                found = h_star(P)
                self.assertIsInstance(found, list)
                self.assertTrue(whole_row(d + 1, tuple(found)))
                for t in range(d + 2):
                    many = sum(h * math.comb(t + d - k, d) for k, h in enumerate(found))
                    self.assertEqual(many, count(scaled(P, (t, 1))) if t > 0 else 1)
                self.assertGreaterEqual(min(found), 0)
                self.assertEqual(sum(found), Fraction(*volume(P)) * math.factorial(d))
                self.assertEqual(found[0], 1)
                self.assertEqual(found[1], count(P) - d - 1)
                self.assertEqual(found[d], inner_count(P))

    def test_half_open_cells(self):
        source = source_of(183)
        for d in range(1, 5):
            for P in lattice_samples(d, 184, 2):
                points = P.vertices()
                tally = [0] * (d + 1)
                cells = triangulation(d, points)
                place = self.place_for(source, d, points, cells)
                for cell in cells:
                    rows = [points[k] for k in cell]
                    whole_one = det_by_words(rows)
                    seen = tuple(k for i, k in enumerate(cell)
                                 if det_by_words(rows[:i] + [place] + rows[i + 1:]) * whole_one < 0)
                    for vector in box_points(d, points, cell, seen):
                        tally[vector[0]] += 1
                self.assertEqual(tally, h_star(P))

    def place_for(self, source, d, points, cells):
        """Return a point of the hull that lies in no plane of a facet of a cell."""
        while True:
            place = divided(weighted([source.randint(1, 999) for _ in points], points))
            if all(product_of(kernel_by_words([points[k] for k in side]), place) != 0
                   for cell in cells for side in itertools.combinations(cell, d)):
                return place


class BoxPointsTest(unittest.TestCase):
    def shares(self, rows, vector):
        """Return the numbers times which the rows add up to a vector."""
        lines = [tuple(row[k] for row in rows) + (vector[k],) for k in range(len(vector))]
        return [line[-1] for line in reduced_form(lines)]

    def assert_box(self, d, points, cell, free):
        found = box_points(d, points, cell, free)
        rows = [points[k] for k in cell]
        self.assertIsInstance(found, list)
        self.assertEqual(found, sorted(set(found)))
        # The parallelepiped has as many vectors of integers as its volume says, so there are no others.
        self.assertEqual(len(found), abs(det_by_words(rows)))
        for vector in found:
            self.assertTrue(whole_row(d + 1, vector))
            for k, share in zip(cell, self.shares(rows, vector)):
                self.assertTrue(0 < share <= 1 if k in free else 0 <= share < 1)

    def test_known(self):
        line = [(1, 0), (1, 3), (1, 5)]
        self.assertEqual(box_points(1, line, (0, 1), ()), [(0, 0), (1, 1), (1, 2)])
        self.assertEqual(box_points(1, line, (0, 1), (0,)), [(1, 0), (1, 1), (1, 2)])
        self.assertEqual(box_points(1, line, (0, 1), (1,)), [(1, 1), (1, 2), (1, 3)])
        self.assertEqual(box_points(1, line, (0, 1), (0, 1)), [(1, 1), (1, 2), (2, 3)])
        self.assertEqual(box_points(1, line, (1, 2), (2,)), [(1, 4), (1, 5)])
        # The indexes are those of the list, also where the cell begins later.
        self.assertEqual(box_points(1, line, (1, 2), (1,)), [(1, 3), (1, 4)])
        unit = [(1, 0, 0), (1, 1, 0), (1, 0, 1)]
        self.assertEqual(box_points(2, unit, (0, 1, 2), ()), [(0, 0, 0)])
        self.assertEqual(box_points(2, unit, (0, 1, 2), (1, 2)), [(2, 1, 1)])
        self.assertEqual(box_points(2, unit, (0, 1, 2), (0, 1, 2)), [(3, 1, 1)])

    def test_all_open_facets(self):
        source = source_of(185)
        for d in range(1, 5):
            P = lattice_polytope(source, d, d + 2, 2)
            points = P.vertices()
            cell = triangulation(d, points)[-1]
            for many in range(d + 2):
                for free in itertools.combinations(cell, many):
                    self.assert_box(d, points, cell, free)

    def test_random(self):
        source = source_of(186)
        for d in range(1, 5):
            for _ in range(6):
                points = lattice_polytope(source, d, d + 3, {1: 50, 2: 9, 3: 4, 4: 2}[d]).vertices()
                for cell in triangulation(d, points)[:2]:
                    self.assert_box(d, points, cell, tuple(k for k in cell if source.random() < 0.5))

    def test_number_is_the_volume(self):
        points = [(1, 0, 0), (1, 101, 3), (1, 7, 97)]
        self.assertEqual(len(box_points(2, points, (0, 1, 2), (1,))), 101 * 97 - 21)
        self.assertEqual(pair_of(Fraction(101 * 97 - 21, 2)), volume(hull(2, points)))
