"""Points 16.4 and 16.5: regular triangulations, height papers, and kinds of triangulations."""

import itertools
import math
import unittest
from fractions import Fraction

from hullwright.cells import lower_cells, triangulation
from hullwright.circuits import all_triangulations
from hullwright.known import cross, cube, cyclic
from hullwright.regular import check_heights, counts_of_kinds, height_paper, is_fine
from tests.support import ODD_VALUES, reduced_form, source_of, variants, whole_row, words_of
from tests.test_cells import SQUARE, different_points, lower_by_words

# Two triangles, one in the other: if the sides between them all turn the same way, no heights belong to them.
NESTED = [(1, 0, 0), (1, 4, 0), (1, 0, 4), (1, 1, 1), (1, 2, 1), (1, 1, 2)]
TURNED = tuple(sorted([(0, 1, 3), (1, 3, 4), (1, 2, 4), (2, 4, 5), (0, 2, 5), (0, 3, 5), (3, 4, 5)]))
TURNED_BACK = tuple(sorted([(0, 1, 4), (0, 3, 4), (1, 2, 5), (1, 4, 5), (0, 2, 3), (2, 3, 5), (3, 4, 5)]))
LINE = [(1, 0), (1, 1), (1, 2)]


def fold_by_words(points, cell, k):
    """Return the fold of a cell and a point: the numbers with which the points, divided, add up to zeros."""
    indexes = cell + (k,)
    rows = [[Fraction(points[i][at], points[i][0]) for i in indexes] for at in range(len(points[0]))]
    solved = reduced_form(rows)
    # The columns of the cell are independent, so the last one is free.
    values = [-row[-1] for row in solved] + [Fraction(1)]
    common = math.lcm(*[value.denominator for value in values])
    whole_values = [int(value * common) for value in values]
    divisor = math.gcd(*whole_values)
    fold = [0] * len(points)
    for i, value in zip(indexes, whole_values):
        fold[i] = value // divisor
    return fold


def right_heights(d, points, cells, value):
    """Tell whether a value is a right height paper, by the words of point 16.4."""
    if words_of(value, "yes", 2):
        return whole_row(len(points), value[1]) and lower_by_words(d, points, list(value[1])) == list(cells)
    if not words_of(value, "no", 2) or not isinstance(value[1], tuple) or value[1] == ():
        return False
    places = []
    total = [0] * len(points)
    for part in value[1]:
        if not whole_row(3, part):
            return False
        at, k, weight = part
        if not 0 <= at < len(cells) or not 0 <= k < len(points) or k in cells[at] or weight < 1:
            return False
        places.append((at, k))
        total = [a + weight * b for a, b in zip(total, fold_by_words(points, cells[at], k))]
    if len(set(places)) < len(places) or list(value[1]) != sorted(value[1]):
        return False
    return not any(total)


class HeightPaperTest(unittest.TestCase):
    def assert_paper(self, d, points, cells):
        given = list(points)
        paper = height_paper(d, points, cells)
        self.assertEqual(points, given)
        self.assertTrue(right_heights(d, points, cells, paper), (points, cells, paper))
        self.assertIs(check_heights(d, points, cells, paper), True)
        return paper[0]

    def test_known(self):
        self.assertEqual(self.assert_paper(1, LINE, ((0, 1), (1, 2))), "yes")
        self.assertEqual(self.assert_paper(1, LINE, ((0, 2),)), "yes")
        self.assertEqual(self.assert_paper(1, [(1, 7), (2, 1)], ((0, 1),)), "yes")
        self.assertEqual(self.assert_paper(2, NESTED, TURNED), "no")
        self.assertEqual(self.assert_paper(2, NESTED, TURNED_BACK), "no")
        for d in range(1, 5):
            points = [(1,) + (0,) * d] + [(1,) + (0,) * k + (5,) + (0,) * (d - k - 1) for k in range(d)]
            self.assertEqual(self.assert_paper(d, points, (tuple(range(d + 1)),)), "yes")

    def test_turned_triangles_that_do_not_fit(self):
        # Moved a little, the inner triangle lets the sides turn one way.
        points = [(1, 0, 0), (1, 40, 0), (1, 0, 40), (1, 10, 11), (1, 19, 10), (1, 11, 19)]
        answers = {self.assert_paper(2, points, cells) for cells in (TURNED, TURNED_BACK)}
        self.assertEqual(answers, {"yes", "no"})

    def test_all_triangulations(self):
        source = source_of(371)
        lists = [(1, [(1, k) for k in (3, 0, 5, 1, 4)]), (2, SQUARE), (2, NESTED), (3, cross(3).vertices()),
                 (3, cyclic(3, 6).vertices()), (3, [point + (0,) for point in NESTED] + [(1, 1, 1, 3)])]
        for d, many, most in ((1, 5, 5), (2, 6, 2), (2, 6, 9999), (3, 6, 2), (4, 7, 2), (4, 6, 9999)):
            lists.append((d, different_points(source, d, many, most)))
        words = set()
        for d, points in lists:
            for cells in all_triangulations(d, points):
                words.add((d, self.assert_paper(d, points, cells)))
        self.assertEqual(words, {(1, "yes"), (2, "yes"), (2, "no"), (3, "yes"), (3, "no"), (4, "yes")})

    def test_lower_cells_are_regular(self):
        source = source_of(372)
        for d in range(1, 5):
            for _ in range(6):
                points = different_points(source, d, source.randint(d + 1, 7), 3)
                heights = tuple(source.randint(-99, 99) for _ in points)
                cells = tuple(lower_cells(d, points, list(heights)))
                if all(len(cell) == d + 1 for cell in cells):
                    self.assertIs(check_heights(d, points, cells, ("yes", heights)), True)
                    self.assertEqual(self.assert_paper(d, points, cells), "yes")


class CheckHeightsTest(unittest.TestCase):
    def test_heights(self):
        self.assertIs(check_heights(1, LINE, ((0, 1), (1, 2)), ("yes", (0, -1, 0))), True)
        self.assertIs(check_heights(1, LINE, ((0, 1), (1, 2)), ("yes", (0, 0, 0))), False)
        self.assertIs(check_heights(1, LINE, ((0, 1), (1, 2)), ("yes", (0, 1, 0))), False)
        self.assertIs(check_heights(1, LINE, ((0, 2),), ("yes", (0, 1, 0))), True)
        self.assertIs(check_heights(1, LINE, ((0, 2),), ("yes", (-9999, 10 ** 40, 0))), True)
        self.assertIs(check_heights(1, LINE, ((0, 2),), ("yes", (0, 0, 0))), False)

    def test_parts(self):
        paper = height_paper(2, NESTED, TURNED)
        parts = paper[1]
        self.assertIs(check_heights(2, NESTED, TURNED, paper), True)
        tripled = tuple((at, k, 3 * weight) for at, k, weight in parts)
        self.assertIs(check_heights(2, NESTED, TURNED, ("no", tripled)), True)
        for value in (
                (), parts[::-1], parts[1:], parts + parts, (parts[0],) + parts,
                tuple((at, k, 0) for at, k, weight in parts),
                tuple((at, k, -weight) for at, k, weight in parts),
                # The same cell and point twice, though the sum of the folds is right.
                (tripled[0][:2] + (1,), tripled[0][:2] + (tripled[0][2] - 1,)) + tripled[1:],
                # A further one with the weight 0, and a point of the cell.
                tuple(sorted(parts + ((6, 0, 0),))), tuple(sorted(parts + ((0, TURNED[0][0], 1),))),
                list(parts), tuple(list(part) for part in parts), tuple((at, k, float(w)) for at, k, w in parts)):
            right = right_heights(2, NESTED, TURNED, ("no", value))
            self.assertIs(check_heights(2, NESTED, TURNED, ("no", value)), right)
            self.assertIs(right, False)
        self.assertIs(check_heights(2, NESTED, TURNED_BACK, paper), False)

    def test_folds_of_one_point_on_both_sides(self):
        # Two folds of cells beside each other are one and the same vector, so no sum of them vanishes.
        cells = ((0, 1), (1, 2))
        for parts in itertools.product(((0, 2, 1), (1, 0, 1), (0, 2, 3)), repeat=2):
            self.assertIs(check_heights(1, LINE, cells, ("no", parts)), False)

    def test_variants(self):
        source = source_of(373)
        lists = [(1, LINE), (2, SQUARE), (2, NESTED), (2, different_points(source, 2, 5, 4)),
                 (3, different_points(source, 3, 5, 3))]
        for d, points in lists:
            rows = all_triangulations(d, points)
            chosen = rows[:4] + ([TURNED, TURNED_BACK] if points == NESTED else [])
            for cells in chosen:
                for value in variants(height_paper(d, points, cells)):
                    right = right_heights(d, points, cells, value)
                    self.assertIs(check_heights(d, points, cells, value), right, value)

    def test_never_both(self):
        source = source_of(374)
        rows = all_triangulations(2, NESTED)
        papers = [height_paper(2, NESTED, cells) for cells in rows]
        for cells in rows:
            words = {paper[0] for paper in papers if check_heights(2, NESTED, cells, paper)}
            self.assertEqual(words, {height_paper(2, NESTED, cells)[0]})
            for _ in range(20):
                heights = tuple(source.randint(-9, 9) for _ in NESTED)
                value = ("yes", heights)
                right = right_heights(2, NESTED, cells, value)
                self.assertIs(check_heights(2, NESTED, cells, value), right)

    def test_values_of_any_kind(self):
        for d, points in ((1, LINE), (2, NESTED), (4, cross(4).vertices()[:7])):
            cells = triangulation(d, points)
            many = len(points)
            odd = [("yes", [0] * many), ("yes", (0.0,) * many), ("yes", (True,) * many), ("yes", (0,) * (many + 1)),
                   ("yes", (0,) * (many - 1)), ("no", ((),)), ("no", ((0, 0),)), ("no", ((0, many - 1, True),)),
                   ("no", ((0, many, 1),)), ("no", ((len(cells), 0, 1),)), ("no", ((-1, 0, 1),)), ("no", ((0, -1, 1),)),
                   ("no", ((0, many - 1, 1.0),)), ("no", [(0, many - 1, 1)]), ("yes", None, 1)]
            for value in ODD_VALUES + odd:
                self.assertIs(check_heights(d, points, cells, value), right_heights(d, points, cells, value), value)


class KindsTest(unittest.TestCase):
    def test_is_fine(self):
        self.assertIs(is_fine(LINE, ((0, 1), (1, 2))), True)
        self.assertIs(is_fine(LINE, ((0, 2),)), False)
        self.assertIs(is_fine(NESTED, TURNED), True)
        self.assertIs(is_fine(NESTED, ((0, 1, 2),)), False)
        for cells in all_triangulations(2, SQUARE):
            self.assertIs(is_fine(SQUARE, cells), len(cells) == 4)

    def test_known(self):
        self.assertEqual(counts_of_kinds(2, NESTED), (18, 8, 16))
        self.assertEqual(counts_of_kinds(1, LINE), (2, 1, 2))
        self.assertEqual(counts_of_kinds(2, SQUARE), (3, 1, 3))
        self.assertEqual(counts_of_kinds(2, [(1, t, t * t) for t in range(7)]), (42, 42, 42))
        self.assertEqual(counts_of_kinds(3, cyclic(3, 7).vertices()), (25, 25, 25))
        self.assertEqual(counts_of_kinds(1, [(1, k) for k in range(7)]), (32, 1, 32))
        self.assertEqual(counts_of_kinds(4, cyclic(4, 5).vertices()), (1, 1, 1))

    def test_random(self):
        source = source_of(375)
        for d, many in ((1, 6), (2, 6), (2, 7), (3, 7), (4, 7)):
            points = different_points(source, d, many, 3)
            rows = all_triangulations(d, points)
            fine = sum(set(range(many)) == {k for cell in cells for k in cell} for cells in rows)
            regular = 0
            for cells in rows:
                paper = height_paper(d, points, cells)
                self.assertTrue(right_heights(d, points, cells, paper))
                regular += paper[0] == "yes"
            self.assertEqual(counts_of_kinds(d, points), (len(rows), fine, regular))
            self.assertIsInstance(counts_of_kinds(d, points), tuple)

    def test_cube_without_a_corner(self):
        points = cube(3).vertices()[:7]
        every, fine, regular = counts_of_kinds(3, points)
        self.assertEqual((every, fine, regular), (every, every, every))
