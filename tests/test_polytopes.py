"""Points 4.1 to 4.6: hulls, common parts, both descriptions, and known polytopes."""

import itertools
import unittest

from hullwright.errors import BadSize, Empty, Flat, Unbounded
from hullwright.known import cross, cube, cyclic, simplex
from hullwright.polytopes import Polytope, common_part, hull, same
from hullwright.systems import following_paper, needed_rows
from tests.support import (
    axis_row, box_rows, facets_by_words, inequality_by_words, is_flat_list, known_systems, product_of, right_following,
    satisfied, some_point, some_points, some_system, source_of, vertices_by_words)


def random_lists(number, many):
    """Yield pairs of a dimension and a random list of points, which may be flat."""
    source = source_of(number)
    for _ in range(many):
        d = source.randint(1, 4)
        yield d, some_points(source, d, source.randint(1, 8), source.choice([1, 2, 5, 9999]))


class HullTest(unittest.TestCase):
    def assert_hull(self, d, points):
        P = hull(d, points)
        self.assertIsInstance(P, Polytope)
        self.assertEqual(P.dimension(), d)
        self.assertEqual(P.vertices(), vertices_by_words(d, points))
        self.assertEqual(P.facets(), facets_by_words(d, points))
        for row, facet in zip(P.incidence(), P.facets()):
            tight = tuple(k for k, vertex in enumerate(P.vertices()) if product_of(facet, vertex) == 0)
            self.assertEqual(row, tight)
        self.assertEqual(len(P.incidence()), len(P.facets()))
        return P

    def assert_flat(self, d, points):
        with self.assertRaises(Flat) as caught:
            hull(d, points)
        inequality = caught.exception.inequality
        self.assertTrue(inequality_by_words(d, inequality))
        self.assertTrue(all(product_of(inequality, point) == 0 for point in points))

    def test_examples(self):
        self.assertEqual(hull(1, [(1, 3), (1, 0), (2, 1)]).facets(), [(0, 1), (3, -1)])
        self.assertEqual(hull(1, [(1, 3), (1, 0), (2, 1)]).vertices(), [(1, 0), (1, 3)])
        square = hull(2, [(1, 1, 1), (1, 0, 0), (1, 1, 0), (1, 0, 1), (2, 1, 1), (2, 1, 0), (1, 0, 0)])
        self.assertEqual(square.vertices(), [(1, 0, 0), (1, 0, 1), (1, 1, 0), (1, 1, 1)])
        self.assertEqual(square.facets(), [(0, 0, 1), (0, 1, 0), (1, -1, 0), (1, 0, -1)])
        self.assertEqual(square.incidence(), [(0, 2), (0, 1), (2, 3), (1, 3)])

    def test_random_lists(self):
        full = set()
        for d, points in random_lists(24, 500):
            if is_flat_list(d, points):
                self.assert_flat(d, points)
            else:
                self.assert_hull(d, points)
                full.add(d)
        self.assertEqual(full, {1, 2, 3, 4})

    def test_flat_lists(self):
        source = source_of(25)
        for d in range(1, 5):
            point = some_point(source, d, 9)
            self.assert_flat(d, [point])
            self.assert_flat(d, [point] * 6)
            self.assert_flat(d, [some_point(source, d, 9) for _ in range(d)])
            self.assert_flat(d, [(1,) + (k,) * d for k in range(9)] if d > 1 else [(1, 5), (1, 5)])
            lower = [some_point(source, d - 1, 9) if d > 1 else (1,) for _ in range(8)]
            self.assert_flat(d, [row + (row[0] * 3,) for row in lower])

    def test_equal_points_and_points_inside(self):
        source = source_of(26)
        for d in range(1, 5):
            corners = cube(d).vertices()
            inside = [some_point(source, d, 3) for _ in range(40)]
            inside = [point for point in inside if all(abs(entry) <= point[0] for entry in point[1:])]
            points = corners + inside + corners[:2]
            source.shuffle(points)
            self.assertTrue(same(hull(d, points), cube(d)))

    def test_many_points(self):
        grid = [(1,) + rest for rest in itertools.product(range(3), repeat=4)]
        P = hull(4, grid)
        self.assertEqual(P.vertices(), [(1,) + rest for rest in itertools.product((0, 2), repeat=4)])
        self.assertEqual(len(P.facets()), 8)

    def test_contains(self):
        source = source_of(27)
        for d, points in random_lists(28, 120):
            if is_flat_list(d, points):
                continue
            P = hull(d, points)
            facets = facets_by_words(d, points)
            for point in points + [some_point(source, d, 4) for _ in range(10)]:
                self.assertIs(P.contains(point), satisfied(facets, point))
                self.assertIs(P.is_inside(point), all(product_of(facet, point) > 0 for facet in facets))
            for point in points:
                self.assertIs(P.contains(point), True)
            for vertex in P.vertices():
                self.assertIs(P.is_inside(vertex), False)

    def test_same(self):
        self.assertIs(same(cube(2), hull(2, cube(2).vertices()[::-1])), True)
        self.assertIs(same(cube(2), cross(2)), False)
        self.assertIs(same(cube(2), cube(3)), False)
        self.assertIs(same(simplex(1), hull(1, [(1, 0), (1, 1)])), True)
        self.assertIs(same(cube(2), hull(2, cube(2).vertices() + [(1, 2, 2)])), False)

    def test_polytopes_never_change(self):
        points = [(1, 0, 0), (1, 2, 0), (1, 0, 2), (2, 1, 1)]
        P = hull(2, points)
        before = (P.vertices(), P.facets(), P.incidence())
        points.append((1, 9, 9))
        points[0] = (1, -7, 0)
        for found in (P.vertices(), P.facets(), P.incidence()):
            found.clear()
        self.assertEqual((P.vertices(), P.facets(), P.incidence()), before)
        self.assertTrue(all(isinstance(row, tuple) for row in P.incidence()))


class CommonPartTest(unittest.TestCase):
    def test_example(self):
        P = common_part(2, [(1, -1, -1), (0, 1, 0), (0, 0, 1), (5, -1, 0)])
        self.assertEqual(P.vertices(), [(1, 0, 0), (1, 0, 1), (1, 1, 0)])
        self.assertEqual(P.facets(), [(0, 0, 1), (0, 1, 0), (1, -1, -1)])

    def assert_common_part(self, d, rows):
        P = common_part(d, rows)
        self.assertEqual(P.dimension(), d)
        self.assertEqual(P.facets(), needed_rows(d, rows))
        self.assertTrue(all(satisfied(rows, vertex) for vertex in P.vertices()))
        # All choices of d points are too many to be tried for long lists.
        if len(P.vertices()) <= 12:
            self.assertEqual(P.vertices(), vertices_by_words(d, P.vertices()))
            self.assertEqual(P.facets(), facets_by_words(d, P.vertices()))
        self.assertTrue(same(P, hull(d, P.vertices())))
        self.assertEqual(P.incidence(), hull(d, P.vertices()).incidence())

    def assert_flat(self, d, rows):
        with self.assertRaises(Flat) as caught:
            common_part(d, rows)
        inequality = caught.exception.inequality
        self.assertTrue(inequality_by_words(d, inequality))
        for turned in (inequality, tuple(-entry for entry in inequality)):
            paper = following_paper(d, rows, turned)
            self.assertEqual(paper[0], "yes")
            self.assertTrue(right_following(d, rows, turned, paper))

    def assert_case(self, d, rows, word):
        if word == "empty":
            self.assertRaises(Empty, common_part, d, rows)
        elif word == "unbounded":
            self.assertRaises(Unbounded, common_part, d, rows)
        elif word == "flat":
            self.assert_flat(d, rows)
        else:
            self.assert_common_part(d, rows)

    def test_known_systems(self):
        for d, rows, word in known_systems():
            self.assert_case(d, rows, word)

    def test_random_systems(self):
        source = source_of(29)
        seen = set()
        for _ in range(250):
            d = source.randint(1, 4)
            rows = some_system(source, d, source.randint(1, 5), source.choice([1, 3, 9999]))
            rows += box_rows(d, source.choice([1, 4]))
            word = "empty"
            if following_paper(d, rows, axis_row(d, -99, 0, 1))[0] == "no":
                word = "full" if not self.is_flat(d, rows) else "flat"
            self.assert_case(d, rows, word)
            seen.add(word)
        self.assertEqual(seen, {"empty", "flat", "full"})

    def is_flat(self, d, rows):
        """Tell whether some row is tight wherever the system is satisfied."""
        return any(following_paper(d, rows, tuple(-entry for entry in row))[0] == "yes" for row in rows)


class BothDescriptionsTest(unittest.TestCase):
    def assert_both(self, P):
        d = P.dimension()
        Q = common_part(d, P.facets())
        R = hull(d, P.vertices())
        for other in (Q, R):
            self.assertTrue(same(other, P))
            self.assertEqual(other.vertices(), P.vertices())
            self.assertEqual(other.facets(), P.facets())
            self.assertEqual(other.incidence(), P.incidence())

    def test_known(self):
        for d in range(1, 5):
            for P in (cube(d), cross(d), simplex(d), cyclic(d, d + 3), cyclic(d, 12)):
                self.assert_both(P)

    def test_random(self):
        for d, points in random_lists(30, 200):
            if not is_flat_list(d, points):
                self.assert_both(hull(d, points))


class KnownTest(unittest.TestCase):
    def test_cube(self):
        for d in range(1, 5):
            self.assertEqual(cube(d).vertices(), [(1,) + rest for rest in itertools.product((-1, 1), repeat=d)])
            self.assertEqual(cube(d).facets(), sorted(box_rows(d, 1)))

    def test_cross(self):
        for d in range(1, 5):
            spots = sorted(axis_row(d, 1, at, entry) for at in range(d) for entry in (1, -1))
            self.assertEqual(cross(d).vertices(), spots)
            self.assertEqual(cross(d).facets(), [(1,) + rest for rest in itertools.product((-1, 1), repeat=d)])

    def test_simplex(self):
        for d in range(1, 5):
            self.assertEqual(simplex(d).vertices(),
                             sorted([(1,) + (0,) * d] + [axis_row(d, 1, at, 1) for at in range(d)]))
            self.assertEqual(simplex(d).facets(),
                             sorted([(1,) + (-1,) * d] + [axis_row(d, 0, at, 1) for at in range(d)]))

    def test_cyclic(self):
        for d in range(1, 5):
            for n in range(d + 1, 13):
                P = cyclic(d, n)
                spots = [(1,) + tuple(t ** k for k in range(1, d + 1)) for t in range(n)]
                self.assertEqual(P.vertices(), spots if d > 1 else [spots[0], spots[-1]])
                if d > 1:
                    self.assertEqual(sorted(P.incidence()), self.even_rows(d, n))

    def even_rows(self, d, n):
        """Return the choices of d of n places between any two others of which there is an even number of chosen."""
        found = []
        for chosen in itertools.combinations(range(n), d):
            others = [k for k in range(n) if k not in chosen]
            if all(len([k for k in chosen if i < k < j]) % 2 == 0 for i, j in itertools.combinations(others, 2)):
                found.append(chosen)
        return found

    def test_cyclic_out_of_range(self):
        for d in range(1, 5):
            for n in (-5, 0, 1, d - 1, d, 13, 14, 1000, 10 ** 20):
                if n <= d or n > 12:
                    with self.assertRaises(BadSize):
                        cyclic(d, n)
