"""Point 6.4: maps that keep the shape."""

import itertools
import unittest

from hullwright.known import cross, cube, cyclic, simplex
from hullwright.polytopes import common_part, hull
from hullwright.shapes import is_shape_map, shape_map
from tests.samples import shape_map_by_words
from tests.support import ODD_VALUES, box_rows, is_flat_list, moved_points, some_points, source_of, variants


def truncated(first, second):
    """Return a tetrahedron without two of its corners, or one without a corner and without one of the new ones."""
    rows = [(0, 1, 0, 0), (0, 0, 1, 0), (0, 0, 0, 1), (12, -1, -1, -1)]
    return common_part(3, rows + [first, second])


class ShapeTest(unittest.TestCase):
    def assert_mapped(self, first, second):
        found = shape_map(first, second)
        self.assertIsInstance(found, tuple)
        self.assertTrue(shape_map_by_words(first, second, found))
        self.assertIs(is_shape_map(first, second, found), True)

    def test_moved(self):
        source = source_of(38)
        for d in range(1, 5):
            for P in (cube(d), cross(d), simplex(d), cyclic(d, d + 3), cyclic(d, 12)):
                Q = hull(d, moved_points(source, d, P.vertices()))
                self.assert_mapped(P, Q)
                self.assert_mapped(Q, P)
                self.assert_mapped(P, P)

    def test_same_shape(self):
        self.assert_mapped(cube(1), simplex(1))
        self.assert_mapped(cube(2), cross(2))
        self.assert_mapped(cyclic(4, 5), simplex(4))
        self.assert_mapped(cyclic(1, 9), simplex(1))
        self.assert_mapped(hull(2, [(1, 0, 0), (1, 9, 0), (1, 5, 5), (1, 0, 7)]), cube(2))

    def test_other_shapes(self):
        for first, second in [(cube(3), cross(3)), (cube(2), simplex(2)), (cube(1), cube(2)), (cube(2), simplex(3)),
                              (simplex(2), simplex(3)), (cube(3), cube(4)), (cyclic(2, 8), cube(3)),
                              (cyclic(4, 6), hull(4, cross(4).vertices()[1:]))]:
            self.assertIsNone(shape_map(first, second))
            self.assertIsNone(shape_map(second, first))
            self.assertIs(is_shape_map(first, second, tuple(range(len(first.vertices())))), False)

    def test_equal_numbers_but_another_shape(self):
        two_corners = truncated((-2, 1, 1, 1), (10, -1, 0, 0))
        in_a_row = truncated((-4, 1, 1, 1), (-1, 2, 1, 0))
        prism = common_part(3, box_rows(3, 1))
        found = [two_corners, in_a_row, prism]
        self.assertTrue(all((len(P.vertices()), len(P.facets())) == (8, 6) for P in found))
        for first, second in itertools.product(found, found):
            self.assertEqual(shape_map(first, second) is None, self.sizes(first) != self.sizes(second))

    def sizes(self, P):
        """Return the sizes of all facets."""
        return sorted(len(row) for row in P.incidence())

    def test_all_maps_of_small_ones(self):
        source = source_of(39)
        found = []
        while len(found) < 30:
            d = source.randint(1, 4)
            points = some_points(source, d, source.randint(d + 1, 6), 3)
            if not is_flat_list(d, points):
                found.append(hull(d, points))
        for first, second in zip(found, found[1:] + found[:1]):
            for other in (second, first):
                many = len(first.vertices())
                right = [value for value in itertools.permutations(range(many)) if shape_map_by_words(first, other, value)]
                self.assertEqual(shape_map(first, other) is None, right == [])
                for value in itertools.permutations(range(many)):
                    self.assertIs(is_shape_map(first, other, value), value in right)

    def test_neighbourly_pairs(self):
        source = source_of(40)
        found = []
        while len(found) < 12:
            points = some_points(source, 4, 8, 6)
            if not is_flat_list(4, points) and len(hull(4, points).vertices()) == 8:
                found.append(hull(4, points))
        for first, second in itertools.combinations(found, 2):
            answer = shape_map(first, second)
            if answer is None:
                self.assertIsNone(shape_map(second, first))
            else:
                self.assertTrue(shape_map_by_words(first, second, answer))

    def test_long_polygons(self):
        first = hull(2, [(1, t, t * t) for t in range(-20, 20)])
        second = hull(2, [(1, t * t, t) for t in range(-20, 20)])
        self.assert_mapped(first, second)
        self.assertIsNone(shape_map(first, hull(2, second.vertices()[1:])))

    def test_any_value(self):
        for P in (simplex(1), cube(2), simplex(3)):
            right = tuple(range(len(P.vertices())))
            for value in ODD_VALUES + list(variants(right)) + [right[::-1], (0,) * len(right)]:
                self.assertIs(is_shape_map(P, P, value), shape_map_by_words(P, P, value), value)
        self.assertIs(is_shape_map(cube(2), cube(2), (0, 1, 2, 3)), True)
        self.assertIs(is_shape_map(cube(2), cube(2), (0, 3, 2, 1)), False)
        self.assertIs(is_shape_map(cube(1), cube(1), (True, False)), False)
