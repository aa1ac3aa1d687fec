"""Points 8.4 and 8.5: volumes."""

import itertools
import math
import unittest
from fractions import Fraction

from hullwright.cells import is_triangulation, lower_cells
from hullwright.dimensions import product, pyramid
from hullwright.errors import Empty, Flat
from hullwright.known import cross, cube, cyclic, simplex
from hullwright.making import half, moved, polar, scaled, shifted, summed
from hullwright.polytopes import common_part, hull
from hullwright.volumes import centroid, facet_volumes, mixed_volumes, volume
from tests.samples import random_polytope, samples, some_map
from tests.support import (
    cell_volume_by_words, det_by_words, exact, pair_of, placed_cells, point_of, product_of, some_inequality, source_of,
    volume_by_words)


def value_of(pair):
    """Return a pair of integers as a fraction of Python."""
    return Fraction(*pair)


class VolumeTest(unittest.TestCase):
    def test_known(self):
        for d in range(1, 5):
            self.assertEqual(volume(cube(d)), (2 ** d, 1))
            self.assertEqual(volume(simplex(d)), (1, math.factorial(d)))
            self.assertEqual(value_of(volume(cross(d))), Fraction(2 ** d, math.factorial(d)))
        self.assertEqual(volume(hull(1, [(3, 1), (2, 1)])), (1, 6))
        self.assertEqual(volume(hull(2, [(1, 0, 0), (1, 2, 0), (1, 2, 2), (1, 0, 2), (1, 1, 1)])), (4, 1))

    def test_any_triangulation(self):
        source = source_of(151)
        for d in range(1, 5):
            for P in samples(d, 152):
                vertices = P.vertices()
                self.assertEqual(volume(P), pair_of(volume_by_words(d, vertices)))
                heights = [source.randint(0, 99) for _ in vertices]
                cells = lower_cells(d, vertices, heights)
                if all(len(cell) == d + 1 for cell in cells):
                    if len(cells) < 20:
                        self.assertTrue(is_triangulation(d, vertices, tuple(cells)))
                    parts = [cell_volume_by_words(d, [vertices[k] for k in cell]) for cell in cells]
                    self.assertEqual(value_of(volume(P)), sum(parts))

    def test_maps_and_products(self):
        source = source_of(153)
        for d in range(1, 5):
            for P in samples(d, 154, 2):
                rows = some_map(source, d, 3)
                factor = abs(Fraction(det_by_words(rows), rows[0][0] ** (d + 1)))
                self.assertEqual(value_of(volume(moved(P, rows))), factor * value_of(volume(P)))
                self.assertEqual(value_of(volume(scaled(P, (-3, 2)))), Fraction(3, 2) ** d * value_of(volume(P)))
                if d < 4:
                    self.assertEqual(value_of(volume(pyramid(P))), value_of(volume(P)) / (d + 1))
                    self.assertEqual(value_of(volume(product(P, cube(1)))), 2 * value_of(volume(P)))

    def test_both_parts_of_a_cut(self):
        source = source_of(155)
        for d in range(1, 5):
            for _ in range(8):
                P = random_polytope(source, d, d + 3, 5)
                inequality = some_inequality(source, d, 3)
                parts = Fraction(0)
                for row in (inequality, tuple(-entry for entry in inequality)):
                    try:
                        parts += value_of(volume(half(P, row)))
                    except (Empty, Flat):
                        pass
                self.assertEqual(parts, value_of(volume(P)))

    def test_large(self):
        source = source_of(156)
        P = random_polytope(source, 4, 8, 9999)
        self.assertEqual(volume(P), pair_of(volume_by_words(4, P.vertices())))
        self.assertEqual(volume(hull(1, [(1, -10 ** 40), (1, 10 ** 40)])), (2 * 10 ** 40, 1))
        self.assertEqual(volume(cyclic(4, 12)), pair_of(volume_by_words(4, cyclic(4, 12).vertices())))


class CentroidTest(unittest.TestCase):
    def by_words(self, P):
        d = P.dimension()
        vertices = P.vertices()
        sums = [Fraction(0)] * d
        for cell in placed_cells(d, vertices):
            chosen = [vertices[k] for k in cell]
            part = cell_volume_by_words(d, chosen)
            middle = [sum(column) / (d + 1) for column in zip(*[exact(point) for point in chosen])]
            sums = [a + part * b for a, b in zip(sums, middle)]
        return point_of([a / volume_by_words(d, vertices) for a in sums])

    def test_by_words(self):
        for d in range(1, 5):
            for P in samples(d, 157):
                self.assertEqual(centroid(P), self.by_words(P))
                self.assertTrue(P.is_inside(centroid(P)))

    def test_known(self):
        for d in range(1, 5):
            self.assertEqual(centroid(cube(d)), (1,) + (0,) * d)
            self.assertEqual(centroid(simplex(d)), (d + 1,) + (1,) * d)
        # Not the average of the vertices.
        self.assertEqual(centroid(hull(2, [(1, 0, 0), (1, 2, 0), (1, 1, 1), (1, 0, 1)])), (9, 7, 4))
        self.assertEqual(centroid(hull(1, [(3, 1), (2, 1)])), (12, 5))

    def test_moves_with_the_polytope(self):
        step = (7, 1, -2, 3)
        moved_one = [a + b for a, b in zip(exact(centroid(cyclic(3, 6))), exact(step))]
        self.assertEqual(centroid(shifted(cyclic(3, 6), step)), point_of(moved_one))


class FacetVolumesTest(unittest.TestCase):
    def assert_facet_volumes(self, P, point):
        d = P.dimension()
        found = facet_volumes(P, point)
        self.assertIsInstance(found, list)
        self.assertEqual(len(found), len(P.facets()))
        for facet, row, part in zip(P.facets(), P.incidence(), found):
            if product_of(facet, point) == 0:
                self.assertEqual(part, (0, 1))
            else:
                spots = [P.vertices()[k] for k in row] + [point]
                self.assertEqual(part, pair_of(volume_by_words(d, spots)))
        self.assertEqual(sum(value_of(part) for part in found), value_of(volume(P)))

    def test_points_inside_and_on_facets(self):
        for d in range(1, 5):
            for P in samples(d, 158, 2):
                vertices = P.vertices()
                first = [vertices[k] for k in P.incidence()[0]]
                on_facet = [sum(column) / len(first) for column in zip(*[exact(point) for point in first])]
                for point in (centroid(P), vertices[0], vertices[-1], point_of(on_facet)):
                    self.assert_facet_volumes(P, point)

    def test_known(self):
        self.assertEqual(facet_volumes(cube(2), (1, 0, 0)), [(1, 1)] * 4)
        self.assertEqual(facet_volumes(simplex(1), (3, 1)), [(1, 3), (2, 3)])
        self.assertEqual(facet_volumes(simplex(2), (1, 0, 0)), [(0, 1), (0, 1), (1, 2)])
        self.assertEqual(facet_volumes(cube(3), (1, 1, 1, 1)),
                         [(0, 1) if product_of(facet, (1, 1, 1, 1)) == 0 else (8, 3) for facet in cube(3).facets()])


class MixedVolumesTest(unittest.TestCase):
    def assert_mixed(self, P, Q, factors):
        d = P.dimension()
        found = mixed_volumes(P, Q)
        self.assertIsInstance(found, list)
        self.assertEqual(len(found), d + 1)
        self.assertEqual(found[0], volume(P))
        self.assertEqual(found[d], volume(Q))
        for a, b in factors:
            value = sum(value_of(m) * Fraction(*a) ** (d - k) * Fraction(*b) ** k for k, m in enumerate(found))
            self.assertEqual(volume(summed(scaled(P, a), scaled(Q, b))), pair_of(value))

    def test_by_words(self):
        source = source_of(159)
        for d in range(1, 5):
            found = samples(d, 160, 2)
            for _ in range(6 if d < 4 else 3):
                P, Q = source.choice(found), source.choice(found)
                self.assert_mixed(P, Q, [((1, 1), (1, 1)), ((2, 3), (5, 1)), ((7, 2), (1, 9))][:5 - d])

    def test_known(self):
        self.assertEqual(mixed_volumes(cube(2), cube(2)), [(4, 1), (8, 1), (4, 1)])
        self.assertEqual(mixed_volumes(cube(2), simplex(2)), [(4, 1), (4, 1), (1, 2)])
        self.assertEqual(mixed_volumes(cube(1), hull(1, [(3, 1), (2, 1)])), [(2, 1), (1, 6)])
        self.assertEqual(mixed_volumes(simplex(4), simplex(4)),
                         [pair_of(Fraction(math.comb(4, k), 24)) for k in range(5)])

    def test_turned_around(self):
        for d, P, Q in ((2, cross(2), cyclic(2, 5)), (3, cube(3), simplex(3)), (4, simplex(4), polar(cube(4)))):
            self.assertEqual(mixed_volumes(P, Q), mixed_volumes(Q, P)[::-1])
            self.assertEqual(mixed_volumes(P, shifted(Q, (2,) + (3,) * d)), mixed_volumes(P, Q))

    def test_inequalities_with_four_digits(self):
        source = source_of(161)
        pairs = []
        for _ in range(2):
            rows = [tuple([source.randint(1, 9999)] + [source.randint(1000, 9999) * turn for turn in turns])
                    for turns in itertools.islice(itertools.product((1, -1), repeat=3), 8)]
            rows = [tuple(entry // math.gcd(*row) for entry in row) for row in rows]
            pairs.append(common_part(3, rows))
        self.assert_mixed(pairs[0], pairs[1], [((3, 7), (11, 2))])
