"""Points 7.1 to 7.4: new polytopes of the same dimension."""

import copy
import unittest
from fractions import Fraction

from hullwright.errors import BadMap, BadNumber, Empty, Flat, NotInside
from hullwright.faces import face_numbers, faces, facets_of, is_face
from hullwright.known import cross, cube, simplex
from hullwright.making import (
    half, inverse_map, meeting, moved, polar, scaled, shifted, summed, united)
from hullwright.polytopes import Polytope, hull, same
from tests.samples import (
    assert_is_hull, assert_part, image_by_words, polytope_around_zero, random_polytope, samples, some_map)
from tests.support import (
    axis_row, box_rows, det_by_words, exact, point_of, product_of, satisfied, some_inequality, some_point,
    source_of, weighted)

ERRORS = (Empty, Flat)


class PolarTest(unittest.TestCase):
    def around_zero(self):
        source = source_of(101)
        found = [f(d) for d in range(1, 5) for f in (cube, cross)]
        for d in range(1, 5):
            for most in (1, 3, 9999):
                found.append(polytope_around_zero(source, d, min(d + 3, 6), most))
        return found

    def test_example(self):
        self.assertEqual(polar(cube(2)).vertices(), [(1, -1, 0), (1, 0, -1), (1, 0, 1), (1, 1, 0)])
        for d in range(1, 5):
            self.assertTrue(same(polar(cube(d)), cross(d)))
            self.assertTrue(same(polar(cross(d)), cube(d)))

    def test_by_words(self):
        for P in self.around_zero():
            Q = polar(P)
            d = P.dimension()
            self.assertIsInstance(Q, Polytope)
            # To (c0, .., cd) belongs the point with the coordinates c1 / c0, .., cd / c0.
            spots = sorted(point_of([Fraction(entry, facet[0]) for entry in facet[1:]]) for facet in P.facets())
            self.assertEqual(Q.vertices(), spots)
            self.assertEqual(Q.facets(), sorted(P.vertices()))
            self.assertTrue(same(Q, hull(d, spots)))
            self.assertEqual(Q.facets(), hull(d, spots).facets())
            self.assertEqual(Q.incidence(), hull(d, spots).incidence())

    def test_points_of_the_polar(self):
        source = source_of(102)
        for P in self.around_zero():
            Q = polar(P)
            for _ in range(20):
                y = some_point(source, P.dimension(), 3)
                least = min(sum(a * b for a, b in zip(exact(y), exact(x))) for x in P.vertices())
                self.assertIs(Q.contains(y), 1 + least >= 0)

    def test_polar_of_the_polar_and_faces(self):
        for P in self.around_zero():
            Q = polar(P)
            self.assertTrue(same(polar(Q), P))
            self.assertEqual(face_numbers(Q)[:-1], face_numbers(P)[:-1][::-1])
            facets = P.facets()
            for face in [entry for row in faces(P)[1:-1] for entry in row]:
                spots = [facets[k] for k in facets_of(P, face)]
                self.assertTrue(is_face(Q, tuple(k for k, v in enumerate(Q.vertices()) if v in spots)))

    def test_not_inside(self):
        for d in range(1, 5):
            for P in (simplex(d), shifted(cube(d), axis_row(d, 1, 0, 1)), shifted(cube(d), axis_row(d, 1, 0, 2)),
                      shifted(cube(d), axis_row(d, 1, d - 1, -1)), shifted(simplex(d), (1,) + (5,) * d)):
                self.assertRaises(NotInside, polar, P)
            inner = hull(d, [(10000,) + exact_row for exact_row in self.almost_touching(d)])
            self.assertEqual(len(polar(inner).facets()), 2 ** d)

    def almost_touching(self, d):
        """Return the coordinates, times 10000, of the vertices of a cube in which 0 is near a facet."""
        return [tuple([vertex[1] * 10000 + 9999] + [10000 * entry for entry in vertex[2:]])
                for vertex in cube(d).vertices()]


class MovedTest(unittest.TestCase):
    def test_example(self):
        # (x, y) becomes (1 + 2 y, x).
        rows = [(1, 1, 0), (0, 0, 1), (0, 2, 0)]
        self.assertEqual(moved(simplex(2), rows).vertices(), [(1, 1, 0), (1, 1, 1), (1, 3, 0)])
        # The first entry of the first row divides.
        self.assertEqual(moved(simplex(1), [(3, 1), (0, -2)]).vertices(), [(3, -1), (3, 1)])

    def test_random(self):
        source = source_of(103)
        for d in range(1, 5):
            for P in samples(d, 104, 2):
                rows = some_map(source, d, 3)
                before = copy.deepcopy(rows)
                images = [image_by_words(rows, vertex) for vertex in P.vertices()]
                Q = moved(P, rows)
                self.assertTrue(same(Q, hull(d, images)))
                self.assertEqual(len(Q.vertices()), len(P.vertices()))
                back = inverse_map(rows)
                self.assertEqual(rows, before)
                self.assert_inverse(rows, back)
                self.assertTrue(same(moved(Q, back), P))
                self.assertTrue(same(moved(moved(P, back), rows), P))

    def assert_inverse(self, rows, back):
        self.assertIsInstance(back, list)
        self.assertTrue(all(isinstance(row, tuple) and all(type(x) is int for x in row) for row in back))
        self.assertGreaterEqual(back[0][0], 1)
        self.assertTrue(all(row[0] == 0 for row in back[1:]))
        products = [weighted(row, back) for row in rows]
        factor = products[0][0]
        self.assertGreater(factor, 0)
        for k, row in enumerate(products):
            self.assertEqual(row, (0,) * k + (factor,) + (0,) * (len(rows) - k - 1))

    def test_large_maps(self):
        rows = [(9999, 1, -7777, 12, 5), (0, 9999, 1, 0, 3), (0, 2, 9998, 1, 1), (0, -3, 5, 7, 9999),
                (0, 1, 1, -9999, 8)]
        self.assert_inverse(rows, inverse_map(rows))
        self.assertTrue(same(moved(moved(cross(4), rows), inverse_map(rows)), cross(4)))

    def test_bad_maps(self):
        for d in range(1, 5):
            zeros = [axis_row(d, 0, k, 1) for k in range(d - 1)] + [(0,) * (d + 1)]
            for rows in ([(1,) + (5,) * d] + zeros, [(3,) + (0,) * d] + [(0,) + (0,) * d] * d):
                self.assertEqual(det_by_words(rows), 0)
                self.assertRaises(BadMap, moved, cube(d), rows)
                self.assertRaises(BadMap, inverse_map, rows)
        rows = [(1, 0, 0), (0, 2, 4), (0, -3, -6)]
        self.assertRaises(BadMap, moved, cube(2), rows)
        self.assertRaises(BadMap, inverse_map, rows)


class PartsTest(unittest.TestCase):
    def test_half_edges(self):
        for d in range(1, 5):
            P = cube(d)
            rows = box_rows(d, 1)
            kinds = [
                ("polytope", axis_row(d, 0, 0, 1)), ("polytope", axis_row(d, -1, d - 1, 2)),
                ("polytope", axis_row(d, 1, 0, 1)), ("polytope", axis_row(d, 7, 0, 1)),
                ("flat", axis_row(d, -1, 0, 1)), ("empty", axis_row(d, -2, 0, 1)),
                ("flat", (-d,) + (1,) * d), ("empty", (-d - 1,) + (1,) * d), ("polytope", (d,) + (1,) * d),
            ]
            for word, inequality in kinds:
                found = assert_part(self, d, rows + [inequality], lambda: half(P, inequality), ERRORS)
                self.assertEqual(found, word)
            self.assertTrue(same(half(P, axis_row(d, 7, 0, 1)), P))
            self.assertTrue(same(half(P, axis_row(d, 1, 0, 1)), P))

    def test_half_random(self):
        source = source_of(105)
        words = set()
        for d in range(1, 5):
            for _ in range(30 if d < 4 else 8):
                P = random_polytope(source, d, d + 2, 4)
                inequality = some_inequality(source, d, 4)
                if source.random() < 0.3:
                    inequality = tuple(-entry for entry in source.choice(P.facets()))
                rows = P.facets() + [inequality]
                words.add(assert_part(self, d, rows, lambda: half(P, inequality), ERRORS))
        self.assertEqual(words, {"polytope", "empty", "flat"})

    def test_meeting_edges(self):
        for d in range(1, 4):
            for step, word in (((1,) + (1,) * d, "polytope"), ((1,) + (2,) * d, "flat"), ((1,) + (3,) * d, "empty"),
                               (axis_row(d, 1, 0, 2), "flat"), (axis_row(d, 1, 0, -3), "empty"),
                               (axis_row(d, 2, 0, 1), "polytope"), ((1,) + (0,) * d, "polytope")):
                P = cube(d)
                Q = shifted(cube(d), step)
                rows = P.facets() + Q.facets()
                self.assertEqual(assert_part(self, d, rows, lambda: meeting(P, Q), ERRORS), word)
        self.assertTrue(same(meeting(cube(4), simplex(4)), simplex(4)))
        self.assertTrue(same(meeting(cube(4), scaled(cross(4), (9, 1))), cube(4)))
        self.assertRaises(Empty, meeting, cube(4), shifted(cube(4), (1, 0, 0, 3, 0)))
        with self.assertRaises(Flat) as caught:
            meeting(cube(4), shifted(cube(4), (1, 0, 0, 2, 0)))
        self.assertIn(caught.exception.inequality, [(1, 0, 0, -1, 0), (-1, 0, 0, 1, 0)])

    def test_meeting_random(self):
        source = source_of(106)
        for d in range(1, 4):
            for _ in range(12):
                P = random_polytope(source, d, d + 2, 4)
                Q = random_polytope(source, d, d + 2, 4)
                word = assert_part(self, d, P.facets() + Q.facets(), lambda: meeting(P, Q), ERRORS)
                if word == "polytope":
                    self.assertTrue(same(meeting(P, Q), meeting(Q, P)))


class TogetherTest(unittest.TestCase):
    def pairs(self, number, many):
        source = source_of(number)
        for d in range(1, 5):
            found = samples(d, number + d, 2)
            for _ in range(many if d < 4 else 3):
                yield d, source.choice(found), source.choice(found)

    def test_united(self):
        for d, P, Q in self.pairs(107, 8):
            R = united(P, Q)
            self.assertTrue(same(R, united(Q, P)))
            if d < 4:
                assert_is_hull(self, R, d, P.vertices() + Q.vertices())
            self.assertTrue(all(R.contains(point) for point in P.vertices() + Q.vertices()))
            self.assertTrue(set(R.vertices()) <= set(P.vertices() + Q.vertices()))
        self.assertEqual(united(simplex(1), shifted(simplex(1), (2, 7))).vertices(), [(1, 0), (2, 9)])

    def test_summed(self):
        for d, P, Q in self.pairs(108, 8):
            R = summed(P, Q)
            sums = [point_of([a + b for a, b in zip(exact(p), exact(q))]) for p in P.vertices() for q in Q.vertices()]
            self.assertEqual(R.dimension(), d)
            self.assertTrue(set(R.vertices()) <= set(sums))
            self.assertTrue(all(satisfied(R.facets(), point) for point in sums))
            if d < 3:
                assert_is_hull(self, R, d, sums)
            # In each direction the greatest value of the sum is the sum of the greatest values.
            for facet in R.facets():
                least = [min(Fraction(product_of(facet[1:], v[1:]), v[0]) for v in S.vertices()) for S in (P, Q)]
                self.assertEqual(sum(least), -facet[0])
        self.assertEqual(summed(cube(1), shifted(simplex(1), (3, 1))).vertices(), [(3, -2), (3, 7)])
        self.assertTrue(same(summed(cube(3), cube(3)), scaled(cube(3), (2, 1))))

    def test_scaled(self):
        for d in range(1, 5):
            for P in samples(d, 109, 2):
                for factor in ((1, 1), (2, 1), (-1, 1), (1, 3), (-5, 2), (9999, 1000)):
                    value = Fraction(*factor)
                    images = sorted(point_of([value * x for x in exact(v)]) for v in P.vertices())
                    Q = scaled(P, factor)
                    self.assertEqual(Q.vertices(), images)
                    self.assertEqual(Q.facets(), hull(d, images).facets())
                    self.assertTrue(same(scaled(Q, (factor[1], factor[0]) if factor[0] > 0 else
                                                (-factor[1], -factor[0])), P))
                self.assertRaises(BadNumber, scaled, P, (0, 1))

    def test_shifted(self):
        source = source_of(110)
        for d in range(1, 5):
            for P in samples(d, 111, 2):
                for step in ((1,) + (0,) * d, some_point(source, d, 3), some_point(source, d, 9999)):
                    images = sorted(point_of([a + b for a, b in zip(exact(v), exact(step))]) for v in P.vertices())
                    self.assertEqual(shifted(P, step).vertices(), images)
                    back = (step[0],) + tuple(-entry for entry in step[1:])
                    self.assertTrue(same(shifted(shifted(P, step), back), P))
        self.assertEqual(shifted(simplex(1), (2, 1)).vertices(), [(2, 1), (2, 3)])
