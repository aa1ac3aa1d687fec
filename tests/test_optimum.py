"""Points 12.1 and 12.2: greatest values and optimum papers."""

import unittest
from fractions import Fraction

from hullwright.faces import is_face
from hullwright.known import cross, cube, simplex
from hullwright.optimum import best_face, check_optimum, form_value, greatest, optimum_paper
from hullwright.systems import case_of
from tests.samples import random_polytope, samples
from tests.support import (
    ODD_VALUES, axis_row, box_rows, corner_rows, exact, known_systems, pair_of, point_by_words, product_of, right_empty,
    satisfied, some_point, some_row, some_system, source_of, variants, weighted, weights_by_words, whole, whole_row,
    words_of)


def value_by_words(form, point):
    """Return the value of a form at a point."""
    return sum((b * x for b, x in zip(form, exact(point))), Fraction(0))


def right_optimum(d, rows, form, value):
    """Tell whether a value is a right optimum paper, by the words of point 12.2."""
    if words_of(value, "empty", 2):
        return right_empty(rows, value[1])
    if words_of(value, "unbounded", 3):
        _, point, direction = value
        if not point_by_words(d, point) or not satisfied(rows, point) or not whole_row(d, direction):
            return False
        return product_of(form, direction) > 0 and all(product_of(row[1:], direction) >= 0 for row in rows)
    if words_of(value, "best", 4):
        _, point, weights, t = value
        if not point_by_words(d, point) or not satisfied(rows, point) or not weights_by_words(len(rows), weights):
            return False
        if not whole(t) or t < 1:
            return False
        u, v = pair_of(value_by_words(form, point))
        return weighted(weights, rows) == (t * u,) + tuple(-t * v * b for b in form)
    return False


class ValuesTest(unittest.TestCase):
    def test_form_value(self):
        self.assertEqual(form_value((1, -1), (6, 3, 2)), (1, 6))
        self.assertEqual(form_value((2,), (2, 3)), (3, 1))
        self.assertEqual(form_value((0, 0, 0), (7, 1, 2, 3)), (0, 1))
        source = source_of(191)
        for d in range(1, 5):
            for _ in range(20):
                form, point = some_row(source, d, 9), some_point(source, d, 9)
                self.assertEqual(form_value(form, point), pair_of(value_by_words(form, point)))

    def test_greatest_and_best_face(self):
        source = source_of(192)
        for d in range(1, 5):
            for P in samples(d, 193):
                forms = [some_row(source, d, most) for most in (1, 1, 9, 9999)] + [(0,) * d]
                # A facet is the best face of its own form, turned around.
                forms += [tuple(-entry for entry in facet[1:]) for facet in P.facets()[:2]]
                for form in forms:
                    values = [value_by_words(form, vertex) for vertex in P.vertices()]
                    face = tuple(k for k, value in enumerate(values) if value == max(values))
                    self.assertEqual(greatest(P, form), pair_of(max(values)))
                    self.assertEqual(best_face(P, form), face)
                    self.assertTrue(is_face(P, face))
                self.assertEqual(best_face(P, forms[-1]), P.incidence()[min(1, len(P.facets()) - 1)])
                self.assertEqual(best_face(P, (0,) * d), tuple(range(len(P.vertices()))))

    def test_known(self):
        self.assertEqual(greatest(cube(3), (1, -2, 3)), (6, 1))
        self.assertEqual(best_face(cube(2), (1, 0)), (2, 3))
        self.assertEqual(best_face(simplex(2), (-1, -1)), (0,))
        self.assertEqual(greatest(cross(4), (1, 1, -1, 1)), (1, 1))


class OptimumTest(unittest.TestCase):
    def assert_paper(self, d, rows, form):
        before = list(rows)
        paper = optimum_paper(d, rows, form)
        self.assertEqual(rows, before)
        self.assertTrue(right_optimum(d, rows, form, paper), (d, rows, form, paper))
        self.assertIs(check_optimum(d, rows, form, paper), True)
        self.assertEqual(paper[0] == "empty", case_of(d, rows) == "empty")
        if case_of(d, rows) in ("flat", "full"):
            self.assertEqual(paper[0], "best")
        return paper

    def test_example(self):
        rows = [(0, 1), (3, -2)]
        self.assertIs(check_optimum(1, rows, (1,), ("best", (2, 3), (0, 1), 1)), True)
        self.assertIs(check_optimum(1, rows, (1,), ("best", (2, 3), (0, 2), 2)), True)
        self.assertIs(check_optimum(1, rows, (1,), ("best", (2, 3), (0, 2), 1)), False)
        self.assertIs(check_optimum(1, rows, (1,), ("best", (1, 1), (0, 1), 1)), False)
        self.assertIs(check_optimum(1, rows, (1,), ("best", (2, 5), (0, 1), 1)), False)
        self.assertIs(check_optimum(1, rows, (1,), ("best", (4, 6), (0, 1), 1)), False)
        self.assertEqual(optimum_paper(1, rows, (1,))[:2], ("best", (2, 3)))
        self.assertEqual(optimum_paper(1, rows, (-1,))[:2], ("best", (1, 0)))

    def test_known_systems(self):
        source = source_of(194)
        for d, rows, word in known_systems():
            forms = [some_row(source, d, most) for most in (1, 9, 9999)] + [(0,) * d, (1,) * d, (-1,) * d]
            for form in forms:
                paper = self.assert_paper(d, rows, form)
                if not any(form) and word != "empty":
                    self.assertEqual(paper[0], "best")

    def test_unbounded_systems_with_and_without_a_greatest_value(self):
        for d in range(1, 5):
            rows = corner_rows(d)
            self.assertEqual(self.assert_paper(d, rows, (1,) * d)[0], "unbounded")
            self.assertEqual(self.assert_paper(d, rows, (-1,) * d)[:2], ("best", (1,) + (0,) * d))
            self.assertEqual(self.assert_paper(d, rows, (0,) * d)[0], "best")
            self.assertEqual(self.assert_paper(d, rows, (-1,) * (d - 1) + (1,))[0], "unbounded")
            self.assertEqual(self.assert_paper(d, [axis_row(d, -9999, 0, 1)], (-7,) + (0,) * (d - 1))[0], "best")
            if d > 1:
                # The greatest value stands at no vertex, as there is none.
                strip = [axis_row(d, 2, 0, 3), axis_row(d, 5, 0, -3)]
                self.assertEqual(self.assert_paper(d, strip, (1,) + (0,) * (d - 1))[0], "best")
                self.assertEqual(self.assert_paper(d, strip, (1,) * d)[0], "unbounded")

    def test_greatest_values_of_polytopes(self):
        source = source_of(195)
        for d in range(1, 5):
            for P in samples(d, 196, 3) + [random_polytope(source, d, min(8, d + 4), 9999)]:
                for form in (some_row(source, d, 1), some_row(source, d, 9999), (0,) * d):
                    paper = self.assert_paper(d, P.facets(), form)
                    self.assertEqual(paper[0], "best")
                    self.assertEqual(form_value(form, paper[1]), greatest(P, form))
                    self.assertTrue(P.contains(paper[1]))

    def test_random_systems(self):
        source = source_of(197)
        words = set()
        for _ in range(300):
            d = source.randint(1, 4)
            rows = some_system(source, d, source.randint(1, 8), source.choice([1, 3, 9999]))
            form = some_row(source, d, source.choice([1, 5, 9999]))
            words.add((case_of(d, rows), self.assert_paper(d, rows, form)[0]))
        self.assertEqual(words, {("empty", "empty"), ("flat", "best"), ("full", "best"), ("unbounded", "best"),
                                 ("unbounded", "unbounded")})

    def test_check_tells_the_truth(self):
        source = source_of(198)
        for d, rows, word in known_systems():
            if len(rows) <= 6:
                form = some_row(source, d, 3)
                paper = optimum_paper(d, rows, form)
                for value in variants(paper):
                    self.assertIs(check_optimum(d, rows, form, value), right_optimum(d, rows, form, value), value)

    def test_papers_of_other_forms_and_systems(self):
        source = source_of(199)
        systems = [some_system(source, 2, 3, 2) for _ in range(12)] + [corner_rows(2) + [(1, -1, -1)]]
        systems = [rows for rows in systems if len(rows) == 3]
        forms = [(0, 0), (1, 0), (-1, 0), (1, 1), (-2, -3)]
        papers = [optimum_paper(2, rows, form) for rows in systems for form in forms]
        papers += [(word,) + paper[1:] for paper in papers for word in ("empty", "unbounded", "best")]
        for rows in systems:
            for form in forms:
                for paper in papers:
                    self.assertIs(check_optimum(2, rows, form, paper), right_optimum(2, rows, form, paper))

    def test_values_of_any_kind(self):
        for d, rows in ((1, [(0, 1), (3, -2)]), (2, corner_rows(2)), (4, box_rows(4, 1))):
            for value in ODD_VALUES + ["best", ("best",), ("best", (1, 0), (0, 0), 1), ("best", (), (), ()),
                                       ["best", (2, 3), (0, 1), 1], ("best", (2, 3), [0, 1], 1),
                                       ("best", (2, 3), (0, 1), True), ("best", (2, 3), (0, 1), 1.0)]:
                self.assertIs(check_optimum(d, rows, (1,) * d, value), False)
