"""Part 17: reflexive polytopes, boundary points, cells of lattice points, and the least width."""

import itertools
import math
import unittest
from fractions import Fraction

from hullwright.errors import NotLattice
from hullwright.known import cross, cube, cyclic, simplex
from hullwright.making import moved, polar, scaled, shifted
from hullwright.polytopes import hull
from hullwright.reflexive import (
    boundary_points, face_lattice_points, facet_distance, is_empty_cell, is_reflexive, is_unimodular, lattice_size)
from hullwright.volumes import volume
from tests.samples import all_faces_by_words, lattice_polytope, random_polytope, samples, some_unimodular_map
from tests.support import det_by_words, is_flat_list, lattice_by_words, product_of, source_of

# The sixteen reflexive polygons begin with these.
REFLEXIVE_POLYGONS = [
    [(1, 0), (0, 1), (-1, -1)], [(1, 0), (0, 1), (-1, 0), (0, -1)], [(1, 0), (0, 1), (-1, 1), (0, -1)],
    [(1, 0), (0, 1), (-1, -2)], [(1, 0), (1, 1), (0, 1), (-1, 0), (0, -1)],
    [(1, 0), (1, 1), (0, 1), (-1, 0), (-1, -1), (0, -1)], [(1, 1), (1, -1), (-1, 1), (-1, -1)],
    [(2, -1), (-1, 2), (-1, -1)], [(1, 1), (-1, 1), (-1, -2)],
]


def polygon(spots):
    """Return the hull of spots of the plane."""
    return hull(2, [(1,) + spot for spot in spots])


def reflexive_by_words(P):
    """Tell whether a polytope and its polar are lattice polytopes, with 0 inside."""
    if any(vertex[0] != 1 for vertex in P.vertices()) or any(facet[0] <= 0 for facet in P.facets()):
        return False
    return all(entry % facet[0] == 0 for facet in P.facets() for entry in facet[1:])


class ReflexiveTest(unittest.TestCase):
    def test_known(self):
        for d in range(1, 5):
            self.assertIs(is_reflexive(cube(d)), True)
            self.assertIs(is_reflexive(cross(d)), True)
            self.assertIs(is_reflexive(simplex(d)), False)                    # 0 is a vertex
            self.assertIs(is_reflexive(scaled(cube(d), (2, 1))), False)       # its polar is no lattice polytope
            self.assertIs(is_reflexive(scaled(cube(d), (1, 2))), False)       # no lattice polytope, but its polar is
            self.assertIs(is_reflexive(shifted(cube(d), (1,) + (1,) * d)), False)     # 0 at the border
            self.assertIs(is_reflexive(shifted(cube(d), (1,) + (5,) * d)), False)     # 0 outside
            big = scaled(simplex(d), (d + 1, 1))
            self.assertIs(is_reflexive(shifted(big, (1,) + (-1,) * d)), True)
            self.assertIs(is_reflexive(big), False)
        # With 0 inside and vertices that are no lattice points.
        self.assertIs(is_reflexive(hull(1, [(2, -1), (2, 1)])), False)
        self.assertIs(is_reflexive(hull(1, [(2, -1), (1, 1)])), False)

    def test_random(self):
        source = source_of(381)
        found = set()
        for d in range(1, 5):
            for P in samples(d, 382) + [lattice_polytope(source, d, d + 1, 1) for _ in range(40)]:
                answer = reflexive_by_words(P)
                found.add((d, answer))
                self.assertIs(is_reflexive(P), answer)
                if answer:
                    self.assertIs(is_reflexive(polar(P)), True)
                    self.assertEqual(lattice_by_words(d, P.vertices(), True), [(1,) + (0,) * d])
        self.assertEqual(len(found), 8)

    def test_twelve(self):
        for spots in REFLEXIVE_POLYGONS:
            P = polygon(spots)
            self.assertIs(is_reflexive(P), True)
            self.assertEqual(len(boundary_points(P)) + len(boundary_points(polar(P))), 12)

    def test_areas_of_polygons(self):
        source = source_of(383)
        for _ in range(30):
            P = lattice_polytope(source, 2, source.randint(3, 7), source.choice([2, 6]))
            inside = len(lattice_by_words(2, P.vertices(), True))
            self.assertEqual(Fraction(*volume(P)), inside + Fraction(len(boundary_points(P)), 2) - 1)


class DistanceTest(unittest.TestCase):
    def test_random(self):
        source = source_of(384)
        for d in range(1, 5):
            for _ in range(5):
                P = lattice_polytope(source, d, source.randint(d + 1, d + 3), 5)
                points = P.vertices()[:2] + [(1,) + tuple(source.randint(-9, 9) for _ in range(d)) for _ in range(5)]
                for k, facet in enumerate(P.facets()):
                    for point in points:
                        right = Fraction(product_of(facet, point), math.gcd(*facet[1:]))
                        self.assertEqual(facet_distance(P, k, point), right)
                        self.assertIsInstance(facet_distance(P, k, point), int)

    def test_known(self):
        self.assertEqual([facet_distance(cube(2), k, (1, 0, 0)) for k in range(4)], [1, 1, 1, 1])
        self.assertEqual(facet_distance(simplex(2), 2, (1, 1, 1)), -1)      # a point outside
        self.assertEqual(facet_distance(simplex(2), 2, (1, -7, -7)), 15)
        self.assertEqual(facet_distance(simplex(1), 0, (1, -9999)), -9999)
        for d in range(1, 5):
            for P in (cube(d), cross(d)):
                for k in range(len(P.facets())):
                    self.assertEqual(facet_distance(P, k, (1,) + (0,) * d), 1)

    def test_not_lattice(self):
        P = hull(2, [(2, 1, 0), (1, 0, 1), (1, 1, 1)])
        for k in range(3):
            self.assertRaises(NotLattice, facet_distance, P, k, (1, 0, 0))


class BoundaryTest(unittest.TestCase):
    def test_random(self):
        source = source_of(385)
        for d in range(1, 5):
            found = [lattice_polytope(source, d, d + 2, 4 if d < 4 else 2), random_polytope(source, d, d + 2, 3)]
            for P in [cube(d), cross(d), simplex(d)] + found:
                everything = lattice_by_words(d, P.vertices(), False)
                inside = lattice_by_words(d, P.vertices(), True)
                self.assertEqual(boundary_points(P), [point for point in everything if point not in inside])
                for face in source.sample(all_faces_by_words(P), 3) + [(), (0,), tuple(range(len(P.vertices())))]:
                    rows = [facet for facet in P.facets()
                            if all(product_of(facet, P.vertices()[k]) == 0 for k in face)]
                    right = [point for point in everything if all(product_of(row, point) == 0 for row in rows)]
                    if face == ():
                        right = []
                    self.assertEqual(face_lattice_points(P, face), right)

    def test_known(self):
        P = scaled(simplex(2), (3, 1))
        self.assertEqual(len(boundary_points(P)), 9)
        self.assertEqual(face_lattice_points(P, (0, 1)), [(1, 0, 0), (1, 0, 1), (1, 0, 2), (1, 0, 3)])
        self.assertEqual(face_lattice_points(P, (2,)), [(1, 3, 0)])
        self.assertEqual(face_lattice_points(P, ()), [])
        self.assertEqual(len(face_lattice_points(P, (0, 1, 2))), 10)
        self.assertEqual(boundary_points(hull(1, [(2, -1), (2, 5)])), [])
        self.assertEqual(boundary_points(hull(1, [(2, -1), (1, 2)])), [(1, 2)])
        self.assertEqual(face_lattice_points(hull(1, [(2, -1), (1, 2)]), (1,)), [])
        self.assertEqual(len(boundary_points(cube(3))), 26)


def some_cell(source, d, most):
    """Return lattice points that are the points of a cell."""
    while True:
        points = [(1,) + tuple(source.randint(-most, most) for _ in range(d)) for _ in range(d + 1)]
        if not is_flat_list(d, points):
            return points


class CellsTest(unittest.TestCase):
    def test_random(self):
        source = source_of(386)
        found = set()
        for d in range(1, 5):
            for _ in range(40):
                cell = some_cell(source, d, source.choice([1, 1, 2, 4]))
                points = cell + [source.choice(cell), (1,) + (0,) * d]
                source.shuffle(points)
                indexes = sorted(points.index(point) for point in cell)
                unimodular = abs(det_by_words(cell)) == 1
                empty = sorted(cell) == lattice_by_words(d, cell, False)
                self.assertIs(is_unimodular(d, points, tuple(indexes)), unimodular)
                self.assertIs(is_empty_cell(d, points, tuple(indexes)), empty)
                found.add((d, unimodular, empty))
                if d < 3:
                    self.assertEqual(unimodular, empty)
                self.assertTrue(empty or not unimodular)
        for d in range(1, 5):
            self.assertLessEqual({(d, True, True), (d, False, False)}, found)

    def test_empty_cells_of_a_great_volume(self):
        for height in (2, 5, 9999):
            points = [(1, 0, 0, 0), (1, 1, 0, 0), (1, 0, 1, 0), (1, 1, 1, height)]
            self.assertIs(is_empty_cell(3, points, (0, 1, 2, 3)), True)
            self.assertIs(is_unimodular(3, points, (0, 1, 2, 3)), False)
            moved_points = hull(3, points)
            vertices = moved(moved_points, some_unimodular_map(source_of(height), 3)).vertices()
            self.assertIs(is_empty_cell(3, vertices, (0, 1, 2, 3)), True)
        points = [(1, 0, 0, 0, 0), (1, 1, 0, 0, 0), (1, 0, 1, 0, 0), (1, 0, 0, 1, 0), (1, 1, 1, 1, 777)]
        self.assertIs(is_empty_cell(4, points, (0, 1, 2, 3, 4)), True)
        self.assertIs(is_unimodular(4, points, (0, 1, 2, 3, 4)), False)
        self.assertIs(is_unimodular(4, points[:4] + [(1, 5, -3, 7, 1)], (0, 1, 2, 3, 4)), True)

    def test_known(self):
        for d in range(1, 5):
            points = simplex(d).vertices()
            cell = tuple(range(d + 1))
            self.assertIs(is_unimodular(d, points, cell), True)
            self.assertIs(is_empty_cell(d, points, cell), True)
            doubled = scaled(simplex(d), (2, 1)).vertices()
            self.assertIs(is_unimodular(d, doubled, cell), False)
            self.assertIs(is_empty_cell(d, doubled, cell), False)
        # A lattice point in the middle only.
        self.assertIs(is_empty_cell(2, [(1, 1, 0), (1, 0, 1), (1, -1, -1)], (0, 1, 2)), False)

    def test_ends_soon(self):
        source = source_of(387)
        for d in range(1, 5):
            for _ in range(5):
                self.assertIs(is_empty_cell(d, some_cell(source, d, 9999), tuple(range(d + 1))), False)


def size_by_words(P):
    """Return the least width of all directions that can have it."""
    d, vertices = P.dimension(), P.vertices()

    def width(direction):
        values = [product_of(direction, vertex[1:]) for vertex in vertices]
        return max(values) - min(values)

    known = min(width((0,) * k + (1,) + (0,) * (d - k - 1)) for k in range(d))
    cell = next(chosen for chosen in itertools.combinations(vertices, d + 1) if not is_flat_list(d, chosen))
    steps = [[b - a for a, b in zip(cell[0][1:], vertex[1:])] for vertex in cell[1:]]
    whole = det_by_words(steps)
    # The values along the edges of the cell determine a direction: by the rule of Cramer.
    best = known
    for values in itertools.product(range(-known, known + 1), repeat=d):
        direction = []
        for k in range(d):
            changed = [row[:k] + [value] + row[k + 1:] for row, value in zip(steps, values)]
            direction.append(Fraction(det_by_words(changed), whole))
        if any(direction) and all(entry.denominator == 1 for entry in direction):
            best = min(best, width([int(entry) for entry in direction]))
    return best


class LatticeSizeTest(unittest.TestCase):
    def test_random(self):
        source = source_of(388)
        for d in range(1, 5):
            for _ in range(12 if d < 3 else 5 if d == 3 else 2):
                P = lattice_polytope(source, d, source.randint(d + 1, d + 4), 6 if d < 3 else 3 if d == 3 else 1)
                self.assertEqual(lattice_size(P), size_by_words(P))
                self.assertIsInstance(lattice_size(P), int)

    def test_known(self):
        for d in range(1, 5):
            self.assertEqual(lattice_size(cube(d)), 2)
            self.assertEqual(lattice_size(cross(d)), 2)
            self.assertEqual(lattice_size(simplex(d)), 1)
            self.assertEqual(lattice_size(scaled(simplex(d), (-7, 1))), 7)
        for P in (cyclic(1, 3), cyclic(2, 4), cyclic(2, 6), cyclic(3, 4)):
            self.assertEqual(lattice_size(P), size_by_words(P))
        # No direction along the axes is thin.
        self.assertEqual(lattice_size(hull(2, [(1, 0, 0), (1, 1, 0), (1, 7, 8), (1, 8, 8), (1, 8, 9)])), 2)
        self.assertEqual(lattice_size(hull(3, [(1, 0, 0, 0), (1, 1, 0, 0), (1, 0, 1, 0), (1, 1234, 4321, 9999)])), 9)

    def test_images(self):
        source = source_of(389)
        for d in range(1, 5):
            for most in (2, 9999):
                P = lattice_polytope(source, d, d + 3, most)
                for _ in range(3):
                    Q = moved(P, some_unimodular_map(source, d))
                    self.assertEqual(lattice_size(Q), lattice_size(P))
                self.assertEqual(lattice_size(scaled(P, (3, 1))), 3 * lattice_size(P))

    def test_not_thin(self):
        # Its width is the same along many directions, and greater along the axes than along others.
        P = hull(2, [(1, 0, 0), (1, 3, 1), (1, 1, 3)])
        self.assertEqual(lattice_size(P), size_by_words(P))
        self.assertEqual(lattice_size(P), 3)
        P = hull(2, [(1, 0, 0), (1, 60, 100), (1, 100, 60)])
        self.assertEqual(lattice_size(P), size_by_words(P))
        self.assertEqual(lattice_size(P), 80)

    def test_least_along_no_short_direction(self):
        # Along the directions in which the vertices deviate least on the whole, the width is greater.
        for spots, size in (([(-2, -1), (-2, 2), (1, 1), (1, 3)], 3),
                            ([(-4, 2), (-1, 4), (0, -3), (1, 4), (2, -5), (5, 0)], 8),
                            ([(-4, -4, -5), (-3, 4, 2), (-2, -2, 4), (-2, 4, 2), (-1, 3, 0), (5, -3, 0)], 8),
                            ([(-3, -4, -1), (-1, 4, -4), (1, 0, -4), (1, 2, 3), (2, -3, -4), (5, -1, 3)], 7)):
            P = hull(len(spots[0]), [(1,) + spot for spot in spots])
            self.assertEqual(lattice_size(P), size)
            self.assertEqual(size_by_words(P), size)

    def test_not_lattice(self):
        self.assertRaises(NotLattice, lattice_size, hull(1, [(2, 1), (1, 7)]))
        self.assertRaises(NotLattice, lattice_size, scaled(cube(3), (1, 2)))

    def test_four_digits(self):
        source = source_of(390)
        for d in range(1, 5):
            P = lattice_polytope(source, d, 8, 9999)
            size = lattice_size(P)
            for _ in range(200):
                direction = tuple(source.randint(-3, 3) for _ in range(d))
                if any(direction):
                    values = [product_of(direction, vertex[1:]) for vertex in P.vertices()]
                    self.assertLessEqual(size, max(values) - min(values))
