"""Points 16.1 to 16.3: circuits, all triangulations and flips."""

import itertools
import unittest

from hullwright.cells import is_triangulation, triangulation
from hullwright.circuits import all_triangulations, circuits, flips
from hullwright.known import cross, cube, cyclic
from tests.support import is_flat_list, rank_by_words, reduced_form, source_of
from tests.test_cells import SQUARE, Judge, different_points

NESTED = [(1, 0, 0), (1, 4, 0), (1, 0, 4), (1, 1, 1), (1, 2, 1), (1, 1, 2)]
LINE = [(1, 0), (1, 1), (1, 2)]
POLYGON = [(1, t, t * t) for t in range(7)]


def weights_of_circuit(points, chosen):
    """Return the numbers, not all 0, with which points add up to zeros, if they are the only ones up to a factor."""
    columns = [tuple(points[k][i] for k in chosen) for i in range(len(points[0]))]
    rows = reduced_form(columns)
    if len(rows) != len(chosen) - 1:
        return None
    pivots = [next(k for k, entry in enumerate(row) if entry != 0) for row in rows]
    free = next(k for k in range(len(chosen)) if k not in pivots)
    weights = [1 if k == free else 0 for k in range(len(chosen))]
    for row, at in zip(rows, pivots):
        weights[at] = -row[free]
    return weights


def circuits_by_words(d, points):
    """Return the ascending list of the circuits: minimal pairs of tuples whose positive sums can be equal."""
    found = []
    for many in range(2, len(points) + 1):
        for chosen in itertools.combinations(range(len(points)), many):
            if any(set(first + second) <= set(chosen) for first, second in found):
                continue
            if rank_by_words([points[k] for k in chosen]) == many:
                continue
            # All smaller sets are independent, so the numbers are determined, and none of them is 0.
            weights = weights_of_circuit(points, chosen)
            first = tuple(k for k, weight in zip(chosen, weights) if weight * weights[0] > 0)
            second = tuple(k for k, weight in zip(chosen, weights) if weight * weights[0] < 0)
            assert sorted(first + second) == list(chosen) and second != ()
            found.append((first, second))
    return sorted(found)


def triangulations_by_words(d, points):
    """Return the ascending list of all triangulations: of all rows of cells that meet rightly, those that cover."""
    judge = Judge(d, points)
    rows = [()]
    found = []
    while rows:
        row = rows.pop()
        if judge.accepts(row):
            found.append(row)
        for cell in judge.cells:
            if (not row or cell > row[-1]) and all(judge.right[other, cell] for other in row):
                rows.append(row + (cell,))
    return sorted(found)


def flips_by_words(d, points, cells):
    """Return the ascending list of what comes from a triangulation by one flip, by the words of point 16.3."""
    found = set()
    for pair in circuits_by_words(d, points):
        for first, second in (pair, pair[::-1]):
            whole = frozenset(first + second)
            upper = [whole - {k} for k in first]
            lower = [whole - {k} for k in second]
            links = [{frozenset(cell) - part for cell in cells if part <= set(cell)} for part in upper]
            if all(link == links[0] and link for link in links):
                kept = [cell for cell in cells if not any(part <= set(cell) for part in upper)]
                fresh = [tuple(sorted(part | link)) for part in lower for link in links[0]]
                found.add(tuple(sorted(kept + fresh)))
    return sorted(found)


class CircuitsTest(unittest.TestCase):
    def test_examples(self):
        self.assertEqual(circuits(1, LINE), [((0, 2), (1,))])
        self.assertEqual(circuits(1, [(1, 1), (1, 0), (1, 2)]), [((0,), (1, 2))])
        self.assertEqual(circuits(2, SQUARE), [((0, 4), (1, 3)), ((0, 4), (2,)), ((1, 3), (2,))])
        self.assertEqual(circuits(2, NESTED[:4]), [((0, 1, 2), (3,))])
        self.assertEqual(circuits(2, NESTED[:3]), [])
        self.assertEqual(circuits(2, POLYGON[:4]), [((0, 2), (1, 3))])
        self.assertEqual(circuits(3, cyclic(3, 5).vertices()), [((0, 2, 4), (1, 3))])
        self.assertEqual(circuits(2, [(1, 0, 0), (1, 2, 0), (1, 1, 0), (1, 0, 1)]), [((0, 1), (2,))])

    def test_random(self):
        source = source_of(361)
        for d in range(1, 5):
            for _ in range(8):
                points = different_points(source, d, source.randint(d + 1, 7), source.choice([1, 2, 5, 9999]))
                given = list(points)
                self.assertEqual(circuits(d, points), circuits_by_words(d, points))
                self.assertEqual(points, given)

    def test_points_on_edges_and_planes(self):
        for d, points in ((2, [(1, i, k) for i in range(3) for k in range(2)]), (3, cube(3).vertices()[:7]),
                          (3, cross(3).vertices() + [(1, 0, 0, 0)]), (4, cross(4).vertices()[:7]),
                          (2, [(1, 0, 0), (2, 1, 0), (3, 1, 0), (1, 1, 0), (1, 0, 1), (2, 0, 1), (3, 1, 1)])):
            self.assertEqual(circuits(d, points), circuits_by_words(d, points))


class AllTriangulationsTest(unittest.TestCase):
    def test_examples(self):
        self.assertEqual(all_triangulations(1, LINE), [((0, 1), (1, 2)), ((0, 2),)])
        self.assertEqual(all_triangulations(1, [(1, 1), (1, 0), (1, 2)]), [((0, 1), (0, 2)), ((1, 2),)])
        self.assertEqual(all_triangulations(2, SQUARE), [
            ((0, 1, 2), (0, 2, 3), (1, 2, 4), (2, 3, 4)), ((0, 1, 3), (1, 3, 4)), ((0, 1, 4), (0, 3, 4))])
        self.assertEqual(all_triangulations(2, NESTED[:4]), [((0, 1, 2),), ((0, 1, 3), (0, 2, 3), (1, 2, 3))])

    def test_only_one(self):
        for d in range(1, 5):
            points = [(1,) + (0,) * d] + [(1,) + (0,) * k + (5,) + (0,) * (d - k - 1) for k in range(d)]
            self.assertEqual(all_triangulations(d, points), [(tuple(range(d + 1)),)])
            self.assertEqual(flips(d, points, (tuple(range(d + 1)),)), [])

    def test_numbers(self):
        # Polygons, points on a line, and known numbers of cyclic polytopes, prisms and crosses.
        self.assertEqual([len(all_triangulations(2, POLYGON[:n])) for n in range(3, 8)], [1, 2, 5, 14, 42])
        self.assertEqual([len(all_triangulations(1, [(1, k) for k in range(n)])) for n in range(2, 8)],
                         [1, 2, 4, 8, 16, 32])
        self.assertEqual([len(all_triangulations(3, cyclic(3, n).vertices())) for n in (4, 5, 6, 7)], [1, 2, 6, 25])
        self.assertEqual([len(all_triangulations(4, cyclic(4, n).vertices())) for n in (5, 6, 7)], [1, 2, 7])
        self.assertEqual(len(all_triangulations(2, NESTED)), 18)
        self.assertEqual(len(all_triangulations(3, cross(3).vertices())), 3)
        prism = [(1,) + spot + (h,) for spot in ((0, 0), (1, 0), (0, 1)) for h in (0, 1)]
        self.assertEqual(len(all_triangulations(3, prism)), 6)

    def test_by_words(self):
        source = source_of(362)
        lists = [(1, [(1, 0), (1, 3), (2, 1), (1, 1), (3, 5)]), (2, SQUARE), (2, NESTED),
                 (2, [(1, i, k) for i in range(3) for k in range(2)]), (3, cross(3).vertices()),
                 (3, [(1, 0, 0, 0), (1, 3, 0, 0), (1, 0, 3, 0), (1, 0, 0, 3), (1, 1, 1, 0), (2, 1, 1, 1)]),
                 (2, POLYGON[:5] + [(1, 2, 7)])]
        for d, many, most in ((1, 5, 3), (2, 5, 2), (2, 6, 3), (2, 6, 9), (3, 5, 1), (3, 6, 2), (4, 6, 2)):
            lists.append((d, different_points(source, d, many, most)))
        for d, points in lists:
            given = list(points)
            found = all_triangulations(d, points)
            self.assertEqual(points, given)
            self.assertEqual(found, triangulations_by_words(d, points))
            self.assertIn(triangulation(d, points), found)
            for cells in found:
                self.assertIs(is_triangulation(d, points, cells), True)

    def test_seven_points_by_flips(self):
        # All that flips lead to, from any triangulation, are there, and nothing that is none.
        source = source_of(363)
        for d, most in ((2, 2), (2, 9999), (3, 2), (3, 9999), (4, 2), (4, 9999)):
            points = different_points(source, d, 7, most)
            found = all_triangulations(d, points)
            self.assertEqual(found, sorted(set(found)))
            reached = {triangulation(d, points)}
            waiting = list(reached)
            while waiting:
                fresh = set(flips_by_words(d, points, waiting.pop())) - reached
                reached |= fresh
                waiting += sorted(fresh)
            self.assertEqual(found, sorted(reached))
            for cells in found[:20]:
                self.assertIs(is_triangulation(d, points, cells), True)

    def test_order_of_the_points(self):
        source = source_of(364)
        for d, points in ((2, NESTED), (3, cyclic(3, 6).vertices())):
            found = all_triangulations(d, points)
            order = list(range(len(points)))
            source.shuffle(order)
            mixed = [points[k] for k in order]
            back = [tuple(sorted(tuple(sorted(order[k] for k in cell)) for cell in cells))
                    for cells in all_triangulations(d, mixed)]
            self.assertEqual(sorted(back), found)
            self.assertFalse(is_flat_list(d, mixed))


class FlipsTest(unittest.TestCase):
    def test_examples(self):
        self.assertEqual(flips(1, LINE, ((0, 1), (1, 2))), [((0, 2),)])
        self.assertEqual(flips(1, LINE, ((0, 2),)), [((0, 1), (1, 2))])
        self.assertEqual(flips(2, SQUARE, ((0, 1, 3), (1, 3, 4))),
                         [((0, 1, 2), (0, 2, 3), (1, 2, 4), (2, 3, 4)), ((0, 1, 4), (0, 3, 4))])
        self.assertEqual(flips(2, NESTED[:4], ((0, 1, 2),)), [((0, 1, 3), (0, 2, 3), (1, 2, 3))])

    def test_all(self):
        source = source_of(365)
        lists = [(1, [(1, k) for k in (3, 0, 5, 1, 4)]), (2, SQUARE), (2, NESTED), (3, cross(3).vertices()),
                 (2, [(1, i, k) for i in range(3) for k in range(2)]), (3, cyclic(3, 6).vertices()),
                 (3, [(1, 0, 0, 0), (1, 3, 0, 0), (1, 0, 3, 0), (1, 0, 0, 3), (1, 1, 1, 0), (2, 1, 1, 1)])]
        for d, many, most in ((2, 6, 2), (2, 7, 5), (3, 6, 1), (3, 7, 4), (4, 7, 2)):
            lists.append((d, different_points(source, d, many, most)))
        for d, points in lists:
            rows = all_triangulations(d, points)
            ways = {}
            for cells in rows:
                given = list(points)
                found = flips(d, points, cells)
                self.assertEqual(points, given)
                self.assertEqual(found, flips_by_words(d, points, cells))
                self.assertNotIn(cells, found)
                ways[cells] = found
            for cells, found in ways.items():
                for other in found:
                    # The result is a triangulation, which can be flipped back.
                    self.assertIn(cells, ways[other])

    def test_corners_that_cannot_be_flipped(self):
        # Around an inner point of three triangles, the triangles outside cannot be flipped over it.
        points = [(1, 0, 0), (1, 9, 0), (1, 0, 9), (1, 1, 1), (1, 4, 4)]
        cells = ((0, 1, 3), (0, 2, 3), (1, 3, 4), (2, 3, 4), (1, 2, 4))
        cells = tuple(sorted(cells))
        self.assertIs(is_triangulation(2, points, cells), True)
        self.assertEqual(flips(2, points, cells), flips_by_words(2, points, cells))
        self.assertNotIn(((0, 1, 2),), flips(2, points, cells))
