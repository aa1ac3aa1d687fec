"""Part 18: parts, boxes, fitting copies, erosions and projections."""

import itertools
import unittest
from fractions import Fraction

from hullwright.errors import BadSize, Empty, Flat
from hullwright.fitting import box_of, eroded, fit, fit_system, is_contained, projected
from hullwright.known import cross, cube, cyclic, simplex
from hullwright.making import moved, scaled, shifted, summed
from hullwright.optimum import check_optimum, optimum_paper
from hullwright.points import is_inequality, is_point
from hullwright.polytopes import hull, same
from hullwright.systems import case_of
from tests.samples import assert_part, lattice_polytope, random_polytope, samples
from tests.support import (
    axis_row, box_rows, corner_rows, corners_by_words, divided, exact, known_systems, pair_of, point_of, product_of,
    satisfied, some_point, some_system, source_of, systems_of)


def holds_on_copy(P, Q, t, x):
    """Tell whether the copy of Q with a factor at a point is in P."""
    for vertex in Q.vertices():
        spot = point_of([a + t * b for a, b in zip(exact(x), exact(vertex))])
        if not satisfied(P.facets(), spot):
            return False
    return True


def fit_rows_by_words(P, Q):
    """Return the inequalities of point 18.3."""
    rows = []
    for facet in P.facets():
        least = min(sum(c * x for c, x in zip(facet[1:], exact(vertex))) for vertex in Q.vertices())
        rows.append(divided(tuple(least.denominator * entry for entry in facet) + (least.numerator,)))
    return rows


class ContainedTest(unittest.TestCase):
    def test_random(self):
        source = source_of(401)
        found = set()
        for d in range(1, 5):
            family = samples(d, 402, 2)
            family += [scaled(P, (source.randint(1, 9), 9)) for P in family]
            for P, Q in itertools.product(family, repeat=2):
                answer = all(satisfied(Q.facets(), vertex) for vertex in P.vertices())
                self.assertIs(is_contained(P, Q), answer)
                found.add((d, answer))
        self.assertEqual(len(found), 8)

    def test_known(self):
        for d in range(1, 5):
            self.assertIs(is_contained(cube(d), cube(d)), True)
            self.assertIs(is_contained(cross(d), cube(d)), True)
            self.assertIs(is_contained(cube(d), cross(d)), d == 1)
            self.assertIs(is_contained(simplex(d), cross(d)), True)
            # They touch, or one lies outside of the other.
            self.assertIs(is_contained(shifted(cube(d), (1,) + (2,) * d), cube(d)), False)
            self.assertIs(is_contained(shifted(cube(d), (1,) + (9,) * d), cube(d)), False)


class BoxTest(unittest.TestCase):
    def test_random(self):
        for d in range(1, 5):
            for P in samples(d, 403):
                columns = list(zip(*[exact(vertex) for vertex in P.vertices()]))
                self.assertEqual(box_of(P), [(pair_of(min(column)), pair_of(max(column))) for column in columns])

    def test_known(self):
        self.assertEqual(box_of(cube(3)), [((-1, 1), (1, 1))] * 3)
        self.assertEqual(box_of(hull(1, [(2, -1), (3, 1)])), [((-1, 2), (1, 3))])
        self.assertEqual(box_of(cyclic(2, 5)), [((0, 1), (4, 1)), ((0, 1), (16, 1))])


class FitTest(unittest.TestCase):
    def assert_fit(self, P, Q):
        d = P.dimension()
        t, x = fit(P, Q)
        factor = Fraction(*t)
        self.assertEqual(t, pair_of(factor))
        self.assertGreater(factor, 0)
        self.assertTrue(is_point(d, x))
        self.assertTrue(holds_on_copy(P, Q, factor, x))
        # It is the greatest one: weights of the facets lead to a bound of the factor.
        rows = fit_rows_by_words(P, Q)
        form = (0,) * d + (1,)
        paper = optimum_paper(d + 1, rows, form)
        self.assertEqual(paper[0], "best")
        self.assertIs(check_optimum(d + 1, rows, form, paper), True)
        self.assertEqual(Fraction(paper[1][-1], paper[1][0]), factor)
        return t, x

    def test_known(self):
        self.assertEqual(fit(simplex(2), cube(2)), ((1, 4), (4, 1, 1)))
        for d in range(1, 5):
            self.assertEqual(self.assert_fit(cube(d), cube(d)), ((1, 1), (1,) + (0,) * d))
            self.assertEqual(self.assert_fit(cube(d), cross(d)), ((1, 1), (1,) + (0,) * d))
            self.assertEqual(self.assert_fit(cross(d), cube(d)), ((1, d), (1,) + (0,) * d))
            self.assertEqual(self.assert_fit(simplex(d), cube(d)), ((1, 2 * d), (2 * d,) + (1,) * d))
            self.assertEqual(self.assert_fit(simplex(d), scaled(simplex(d), (-1, 1)))[0], (1, d))
            self.assertEqual(self.assert_fit(scaled(cube(d), (7, 3)), shifted(cube(d), (1,) + (5,) * d))[0], (7, 3))

    def test_random(self):
        source = source_of(404)
        for d in range(1, 5):
            for _ in range(5):
                most = source.choice([3, 9999])
                P = random_polytope(source, d, source.randint(d + 1, 8), most)
                Q = random_polytope(source, d, source.randint(d + 1, 8), most)
                self.assert_fit(P, Q)
                self.assertEqual(fit(P, P)[0], (1, 1))
                scale, step = (source.randint(1, 9), source.randint(1, 9)), some_point(source, d, 9)
                t = Fraction(*fit(P, Q)[0])
                self.assertEqual(Fraction(*fit(P, shifted(scaled(Q, scale), step))[0]), t / Fraction(*scale))

    def test_system(self):
        source = source_of(405)
        for d in range(1, 4):
            for _ in range(8):
                P = random_polytope(source, d, d + 2, source.choice([3, 99]))
                Q = random_polytope(source, d, d + 2, source.choice([3, 99]))
                rows = fit_system(P, Q)
                self.assertEqual(rows, fit_rows_by_words(P, Q))
                for _ in range(10):
                    x = some_point(source, d, 4)
                    t = Fraction(source.randint(0, 4), source.randint(1, 20))
                    spot = point_of(list(exact(x)) + [t])
                    self.assertEqual(satisfied(rows, spot), holds_on_copy(P, Q, t, x))
        self.assertEqual(fit_system(simplex(1), cube(1)), [(0, 1, -1), (1, -1, -1)])
        self.assertEqual(fit_system(hull(1, [(2, 1), (1, 3)]), hull(1, [(3, -1), (3, 2)])), [(-3, 6, -2), (9, -3, -2)])

    def test_bad_size(self):
        self.assertRaises(BadSize, fit_system, cube(4), simplex(4))
        self.assertEqual(len(fit_system(cube(3), simplex(3))), 6)


def eroded_rows(P, Q):
    """Return the system of the points at which the copies of P's facets hold for all of Q."""
    return [divided((row[0] + row[-1],) + row[1:-1]) for row in fit_rows_by_words(P, Q)]


class ErodedTest(unittest.TestCase):
    def test_sums(self):
        source = source_of(406)
        for d in range(1, 5):
            family = samples(d, 407, 1)
            for P, Q in itertools.product(family, repeat=2):
                self.assertTrue(same(eroded(summed(P, Q), Q), P))
            P = lattice_polytope(source, d, 8, 9999)
            Q = lattice_polytope(source, d, d + 1, 9999)
            self.assertTrue(same(eroded(summed(P, Q), Q), P))

    def test_random(self):
        source = source_of(408)
        found = set()
        for _ in range(150):
            d = source.randint(1, 4)
            P = random_polytope(source, d, d + 2, 3)
            Q = scaled(random_polytope(source, d, d + 2, 3), (source.choice([-2, 1, 1, 1]), source.choice([1, 2, 9])))
            rows = eroded_rows(P, Q)
            found.add((d, assert_part(self, d, rows, lambda: eroded(P, Q), (Empty, Flat))))
        self.assertLessEqual({(d, word) for d in range(1, 5) for word in ("empty", "polytope")}, found)

    def test_known(self):
        for d in range(1, 5):
            self.assertTrue(same(eroded(cube(d), scaled(cube(d), (1, 3))), scaled(cube(d), (2, 3))))
            self.assertTrue(same(eroded(scaled(cube(d), (3, 1)), shifted(cube(d), (1,) + (1,) * d)),
                                 shifted(scaled(cube(d), (2, 1)), (1,) + (-1,) * d)))
            # It just fits, at one point, or along a way.
            for Q in (cube(d), shifted(cube(d), (2,) + (7,) * d)):
                rows = eroded_rows(cube(d), Q)
                self.assertEqual(len(corners_by_words(d, rows)), 1)
                self.assertEqual(assert_part(self, d, rows, lambda: eroded(cube(d), Q), (Empty, Flat)), "flat")
            self.assertRaises(Empty, eroded, cube(d), scaled(cube(d), (10001, 10000)))
            self.assertRaises(Empty, eroded, simplex(d), cube(d))
        slab = moved(cube(3), [(1, 0, 0, 0), (0, 1, 0, 0), (0, 0, 1, 0), (0, 0, 0, 5)])
        rows = eroded_rows(slab, cube(3))
        self.assertEqual(len(corners_by_words(3, rows)), 2)
        self.assertEqual(assert_part(self, 3, rows, lambda: eroded(slab, cube(3)), (Empty, Flat)), "flat")


def has_point_above(d, rows, k, spot):
    """Tell whether some solution of a system is a point of a smaller dimension with a further coordinate k."""
    low, high = None, None
    values = list(exact(spot))
    for row in rows:
        rest = row[0] + sum(c * x for c, x in zip(row[1:k] + row[k + 1:], values))
        if row[k] == 0:
            if rest < 0:
                return False
        elif row[k] > 0:
            low = -rest / row[k] if low is None else max(low, -rest / row[k])
        else:
            high = -rest / row[k] if high is None else min(high, -rest / row[k])
    return low is None or high is None or low <= high


class ProjectedTest(unittest.TestCase):
    def assert_projected(self, source, d, rows, k):
        given = list(rows)
        found = projected(d, rows, k)
        self.assertEqual(rows, given)
        self.assertIsInstance(found, list)
        self.assertTrue(all(is_inequality(d - 1, row) for row in found))
        spots = [some_point(source, d - 1, source.choice([2, 9])) for _ in range(8)]
        if case_of(d, rows) in ("flat", "full"):
            corners = [point[:k] + point[k + 1:] for point in corners_by_words(d, rows)]
            spots += [divided(point) for point in corners]
        answers = set()
        for spot in spots:
            answer = has_point_above(d, rows, k, spot)
            self.assertEqual(satisfied(found, spot), answer)
            answers.add(answer)
        return answers

    def test_known_systems(self):
        source = source_of(409)
        for d, rows, word in known_systems():
            for k in range(1, d + 1):
                if d == 1:
                    self.assertRaises(BadSize, projected, d, rows, k)
                elif word == "empty":
                    self.assertRaises(Empty, projected, d, rows, k)
                else:
                    self.assert_projected(source, d, rows, k)

    def test_random(self):
        source = source_of(410)
        answers = set()
        for _ in range(200):
            d = source.randint(2, 4)
            rows = some_system(source, d, source.randint(1, 8), source.choice([1, 3, 9999]))
            k = source.randint(1, d)
            if case_of(d, rows) == "empty":
                self.assertRaises(Empty, projected, d, rows, k)
            else:
                answers |= {(d, answer) for answer in self.assert_projected(source, d, rows, k)}
        self.assertEqual(len(answers), 6)

    def test_no_inequalities(self):
        self.assertEqual(projected(2, [(0, 1, 0)], 1), [])
        self.assertEqual(projected(2, [(0, 1, 5)], 2), [])
        self.assertEqual(projected(2, [(0, 1, 0), (5, -1, 0)], 1), [])
        self.assertEqual(projected(3, [(0, 1, 2, 3), (-9, 1, 0, 0)], 1), [])
        self.assertEqual(projected(4, [axis_row(4, 0, 2, 1), axis_row(4, 0, 2, -1)], 3), [])

    def test_boxes(self):
        for d in (2, 3, 4):
            for k in range(1, d + 1):
                found = projected(d, box_rows(d, 2), k)
                self.assertEqual(sorted(set(found)), sorted(box_rows(d - 1, 2)))
        source = source_of(411)
        self.assert_projected(source, 3, corner_rows(3) + [(1, -1, -1, -1)], 2)

    def test_errors(self):
        # The size is told before the emptiness.
        self.assertRaises(BadSize, projected, 1, [(0, 1)], 1)
        self.assertRaises(BadSize, projected, 1, [(-2, 1), (1, -1)], 1)
        for rows in systems_of(2)["empty"]:
            self.assertRaises(Empty, projected, 2, rows, 1)
