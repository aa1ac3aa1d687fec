"""Points 8.1 to 8.3: cells, triangulations and lower cells."""

import itertools
import unittest
from fractions import Fraction

from hullwright.cells import cell_volume, is_triangulation, lower_cells, triangulation
from hullwright.errors import Flat
from hullwright.known import cross, cube, cyclic
from tests.support import (
    ODD_VALUES, cell_volume_by_words, corners_by_words, det_by_words, facets_by_words, is_flat_list, pair_of,
    placed_cells, product_of, rank_by_words, reduced_form, some_point, source_of, tight_everywhere, variants, whole_row)

SQUARE = [(1, 0, 0), (1, 0, 2), (1, 1, 1), (1, 2, 0), (1, 2, 2)]


def different_points(source, d, many, most):
    """Return random different points that are not flat."""
    # There must be as many that differ.
    most = max(most, many if d == 1 else 1)
    while True:
        points = [some_point(source, d, most) for _ in range(many)]
        if len(set(points)) == many and not is_flat_list(d, points):
            return points


def all_cells(d, points):
    """Return the ascending list of all cells."""
    return [cell for cell in itertools.combinations(range(len(points)), d + 1)
            if det_by_words([points[k] for k in cell]) != 0]


def meet_rightly(d, points, first, second):
    """Tell whether the common points of two cells are the hull of the points that both have."""
    rows = []
    for cell in (first, second):
        rows += facets_by_words(d, [points[k] for k in cell])
    return set(corners_by_words(d, rows)) == {points[k] for k in first if k in second}


def covers(d, points, cells):
    """Tell whether cells that meet rightly cover the hull: each side is at the border or between two cells."""
    sides = [side for cell in cells for side in itertools.combinations(cell, d)]
    borders = facets_by_words(d, points)
    for side in sides:
        at_border = any(all(product_of(row, points[k]) == 0 for k in side) for row in borders)
        if sides.count(side) != (1 if at_border else 2):
            return False
    return cells != ()


class Judge:
    """Tells by the words of point 8.2 whether rows of cells are triangulations."""

    def __init__(self, d, points):
        self.d = d
        self.points = points
        self.cells = all_cells(d, points)
        self.right = {pair: meet_rightly(d, points, *pair) for pair in itertools.combinations(self.cells, 2)}

    def accepts(self, cells):
        if not all(self.right[pair] for pair in itertools.combinations(cells, 2)):
            return False
        return covers(self.d, self.points, cells)


class CellTest(unittest.TestCase):
    def test_known(self):
        self.assertEqual(cell_volume(1, [(1, 0), (1, 5)], (0, 1)), (5, 1))
        self.assertEqual(cell_volume(1, [(2, 1), (1, 0), (3, 1)], (0, 2)), (1, 6))
        self.assertEqual(cell_volume(2, SQUARE, (0, 1, 2)), (1, 1))
        self.assertEqual(cell_volume(2, SQUARE, (0, 1, 3)), (2, 1))
        self.assertEqual(cell_volume(3, [(1, 0, 0, 0), (1, 1, 0, 0), (1, 0, 1, 0), (2, 0, 0, 1)], (0, 1, 2, 3)), (1, 12))
        self.assertEqual(cell_volume(4, [(1,) + (0,) * 4] + [(1,) + (0,) * k + (1,) + (0,) * (3 - k) for k in range(4)],
                                     (0, 1, 2, 3, 4)), (1, 24))

    def test_random(self):
        source = source_of(141)
        for d in range(1, 5):
            for _ in range(20):
                points = different_points(source, d, d + 2, source.choice([2, 9, 9999]))
                for cell in all_cells(d, points):
                    volume = cell_volume_by_words(d, [points[k] for k in cell])
                    self.assertEqual(cell_volume(d, points, cell), pair_of(volume))


class IsTriangulationTest(unittest.TestCase):
    def test_examples(self):
        line = [(1, 0), (1, 1), (1, 2)]
        self.assertIs(is_triangulation(1, line, ((0, 1), (1, 2))), True)
        self.assertIs(is_triangulation(1, line, ((0, 2),)), True)
        self.assertIs(is_triangulation(1, line, ((0, 1), (0, 2))), False)
        self.assertIs(is_triangulation(1, line, ((1, 2), (0, 1))), False)
        self.assertIs(is_triangulation(1, line, ((0, 1), (0, 1), (1, 2))), False)
        self.assertIs(is_triangulation(1, line, ((1, 0), (1, 2))), False)
        self.assertIs(is_triangulation(1, line, ((0, 1),)), False)
        self.assertIs(is_triangulation(1, line, ()), False)

    def test_square(self):
        right = [((0, 1, 3), (1, 3, 4)), ((0, 1, 4), (0, 3, 4)),
                 ((0, 1, 2), (0, 2, 3), (1, 2, 4), (2, 3, 4))]
        for cells in right:
            self.assertIs(is_triangulation(2, SQUARE, cells), True)
        wrong = [
            ((0, 1, 2), (0, 2, 3), (1, 3, 4)),              # a point on a side of one cell only
            ((0, 1, 3), (1, 2, 4), (2, 3, 4)),
            ((0, 1, 3), (0, 1, 4)),                         # cells that overlap, with the right volume
            ((0, 1, 3), (1, 3, 4), (0, 1, 2)),
            ((0, 1, 2), (0, 2, 3), (1, 2, 4)),              # a gap
            ((0, 1, 3),),
            ((0, 1, 3), (1, 2, 3), (1, 3, 4)),              # not a cell: three points on a line
            ((0, 1, 2), (0, 2, 3), (1, 2, 4), (2, 3, 4), (2, 3, 4)),
        ]
        for cells in wrong:
            self.assertIs(is_triangulation(2, SQUARE, cells), False)

    def test_all_rows_of_cells(self):
        source = source_of(142)
        lists = [(1, [(1, 0), (1, 3), (2, 1), (1, 1)]), (2, SQUARE),
                 (3, [(1, 0, 0, 0), (1, 1, 0, 0), (1, 0, 1, 0), (1, 0, 0, 1), (1, 1, 1, 1)]),
                 (2, different_points(source, 2, 5, 3)), (1, different_points(source, 1, 4, 3)),
                 (4, different_points(source, 4, 6, 2)), (3, different_points(source, 3, 5, 2))]
        for d, points in lists:
            judge = Judge(d, points)
            found = 0
            for many in range(0, len(judge.cells) + 1):
                for cells in itertools.combinations(judge.cells, many):
                    right = judge.accepts(cells)
                    self.assertIs(is_triangulation(d, points, cells), right)
                    found += right
            self.assertGreater(found, 0)

    def test_changed_triangulations(self):
        source = source_of(143)
        for d in (2, 3):
            for _ in range(3):
                points = different_points(source, d, d + 3, 2)
                judge = Judge(d, points)
                for start in (triangulation(d, points), tuple(sorted(placed_cells(d, points)))):
                    self.assertIs(is_triangulation(d, points, start), True)
                    self.assertTrue(judge.accepts(start))
                    for _ in range(60):
                        cells = set(start)
                        for _ in range(source.randint(1, 2)):
                            cells ^= {source.choice(judge.cells)}
                        changed = tuple(sorted(cells))
                        self.assertIs(is_triangulation(d, points, changed), judge.accepts(changed))

    def test_values_of_any_kind(self):
        for d, points in ((1, [(1, 0), (1, 1), (1, 2)]), (2, SQUARE), (4, cross(4).vertices())):
            for value in ODD_VALUES:
                self.assertIs(is_triangulation(d, points, value), False)
            right = triangulation(d, points)
            for value in variants(right):
                if repr(value) != repr(right):
                    self.assertIs(is_triangulation(d, points, value), False)
            for value in (((0, 1),) * 2, ((0,) * (d + 1),), (tuple(range(d + 2)),), (tuple(range(d)),),
                          (tuple(range(-1, d)),), (tuple(range(len(points), len(points) + d + 1)),),
                          tuple(list(cell) for cell in right), right[::-1] if len(right) > 1 else list(right)):
                self.assertIs(is_triangulation(d, points, value), False)

    def test_flat_lists_have_none(self):
        self.assertIs(is_triangulation(2, [(1, 0, 0), (1, 1, 1), (1, 2, 2)], ((0, 1, 2),)), False)
        self.assertIs(is_triangulation(2, [(1, 0, 0), (1, 1, 1), (1, 2, 2)], ()), False)
        self.assertIs(is_triangulation(1, [(1, 0)], ()), False)


class TriangulationTest(unittest.TestCase):
    def assert_triangulation(self, d, points):
        given = list(points)
        cells = triangulation(d, points)
        self.assertEqual(points, given)
        self.assertIsInstance(cells, tuple)
        self.assertTrue(all(isinstance(cell, tuple) and whole_row(d + 1, cell) for cell in cells))
        self.assertEqual(list(cells), sorted(set(cells)))
        self.assertTrue(set(cells) <= set(all_cells(d, points)))
        for first, second in itertools.combinations(cells[:8], 2):
            self.assertTrue(meet_rightly(d, points, first, second))
        self.assertTrue(covers(d, points, cells))
        self.assertIs(is_triangulation(d, points, cells), True)

    def test_random(self):
        source = source_of(144)
        for d in range(1, 5):
            for _ in range(12 if d < 3 else 3):
                self.assert_triangulation(d, different_points(source, d, source.randint(d + 1, d + 4), 4))

    def test_known(self):
        source = source_of(145)
        for d in range(1, 4):
            for points in (cube(d).vertices() + [(1,) + (0,) * d], cross(d).vertices(), cyclic(d, d + 3).vertices()):
                source.shuffle(points)
                self.assert_triangulation(d, points)
        for P in (cube(4), cross(4), cyclic(4, 8)):
            self.assertIs(is_triangulation(4, P.vertices(), triangulation(4, P.vertices())), True)

    def test_points_inside_and_on_sides(self):
        grid = [(1,) + rest for rest in itertools.product(range(3), repeat=2)]
        self.assert_triangulation(2, grid)
        self.assert_triangulation(1, [(1, k) for k in (3, 0, 1, 5, 2)])
        self.assert_triangulation(2, SQUARE[::-1])

    def test_flat(self):
        for d in range(1, 5):
            points = [(1,) + (k,) * d for k in range(6)] if d > 1 else [(1, 4)]
            with self.assertRaises(Flat) as caught:
                triangulation(d, points)
            self.assertTrue(tight_everywhere(d, caught.exception.inequality, points))


def lower_by_words(d, points, heights):
    """Return the lower cells by the words of point 8.3."""
    found = set()
    for chosen in all_cells(d, points):
        rows = [(1,) + tuple(Fraction(x, points[k][0]) for x in points[k][1:]) + (heights[k],) for k in chosen]
        function = [line[-1] for line in reduced_form(rows)]
        values = [function[0] + sum(r * Fraction(x, p[0]) for r, x in zip(function[1:], p[1:])) for p in points]
        if all(value <= height for value, height in zip(values, heights)):
            found.add(tuple(k for k, height in enumerate(heights) if values[k] == height))
    return sorted(found)


class LowerCellsTest(unittest.TestCase):
    def test_examples(self):
        line = [(1, 0), (1, 1), (1, 2)]
        self.assertEqual(lower_cells(1, line, [0, 0, 0]), [(0, 1, 2)])
        self.assertEqual(lower_cells(1, line, [0, -1, 0]), [(0, 1), (1, 2)])
        self.assertEqual(lower_cells(1, line, [0, 1, 0]), [(0, 2)])
        self.assertEqual(lower_cells(1, line, [7, 5, 3]), [(0, 1, 2)])
        self.assertEqual(lower_cells(2, SQUARE, [0, 0, -1, 0, 0]), [(0, 1, 2), (0, 2, 3), (1, 2, 4), (2, 3, 4)])
        self.assertEqual(lower_cells(2, SQUARE, [0, 0, 5, 0, 0]), [(0, 1, 3, 4)])
        self.assertEqual(lower_cells(2, SQUARE, [1, 0, 5, 0, 1]), [(0, 1, 3), (1, 3, 4)])
        # A height belongs to the point itself, also where its first entry is greater than 1.
        self.assertEqual(lower_cells(1, [(1, 0), (2, 1), (1, 1)], [0, 1, 2]), [(0, 1, 2)])

    def test_random(self):
        source = source_of(146)
        for d in range(1, 5):
            for _ in range(25 if d < 4 else 6):
                points = different_points(source, d, source.randint(d + 1, d + 4), source.choice([1, 3, 9]))
                heights = [source.randint(-3, 3) * source.choice([1, 1, 3000]) for _ in points]
                found = lower_cells(d, points, heights)
                self.assertIsInstance(found, list)
                self.assertEqual(found, lower_by_words(d, points, heights))
                for cell in found:
                    self.assertEqual(rank_by_words([points[k] for k in cell]), d + 1)
                if all(len(cell) == d + 1 for cell in found):
                    self.assertIs(is_triangulation(d, points, tuple(found)), True)

    def test_equal_heights(self):
        source = source_of(147)
        for d in range(1, 5):
            for height in (0, 4, -9999):
                points = different_points(source, d, d + 4, 3)
                self.assertEqual(lower_cells(d, points, [height] * (d + 4)), [tuple(range(d + 4))])
                slope = [1, -2, 3, 5][:d]
                lattice = [(1,) + point[1:] for point in points]
                if len(set(lattice)) == d + 4 and not is_flat_list(d, lattice):
                    heights = [product_of(slope, point[1:]) + height for point in lattice]
                    self.assertEqual(lower_cells(d, lattice, heights), [tuple(range(d + 4))])

    def test_heights_of_squares_give_the_nearest_neighbours(self):
        points = [(1,) + rest for rest in itertools.product(range(3), repeat=2)]
        heights = [sum(x * x for x in point[1:]) for point in points]
        squares = [(0, 1, 3, 4), (1, 2, 4, 5), (3, 4, 6, 7), (4, 5, 7, 8)]
        self.assertEqual(lower_cells(2, points, heights), squares)

    def test_flat(self):
        for d in range(1, 5):
            points = [(1,) + (k,) * d for k in range(6)] if d > 1 else [(1, 4)]
            with self.assertRaises(Flat) as caught:
                lower_cells(d, points, [k * k for k in range(len(points))])
            self.assertTrue(tight_everywhere(d, caught.exception.inequality, points))
