"""Points 12.3 and 12.4: rising ways, distances and the diameter."""

import itertools
import unittest
from fractions import Fraction

from hullwright.known import cross, cube, cyclic, simplex
from hullwright.ways import diameter, distance, is_rising_way, rising_way
from tests.samples import edges_by_words, samples
from tests.support import ODD_VALUES, exact, some_row, source_of, variants, whole


def vertex_values_by_words(P, form):
    """Return the values of a form at all vertices."""
    return [sum((b * x for b, x in zip(form, exact(vertex))), Fraction(0)) for vertex in P.vertices()]


def rising_by_words(P, form, value):
    """Tell whether a value is a rising way."""
    many = len(P.vertices())
    if not isinstance(value, tuple) or len(value) == 0:
        return False
    if not all(whole(entry) and 0 <= entry < many for entry in value):
        return False
    edges = edges_by_words(P)
    values = vertex_values_by_words(P, form)
    return all(tuple(sorted(pair)) in edges and values[pair[0]] < values[pair[1]] for pair in zip(value, value[1:]))


def distances_by_words(P):
    """Return the least numbers of edges between all pairs of vertices."""
    many = len(P.vertices())
    edges = edges_by_words(P)
    table = {(i, k): 0 if i == k else 1 if (min(i, k), max(i, k)) in edges else many
             for i in range(many) for k in range(many)}
    for middle, first, second in itertools.product(range(many), repeat=3):
        table[first, second] = min(table[first, second], table[first, middle] + table[middle, second])
    return table


class RisingWayTest(unittest.TestCase):
    def test_all_starts(self):
        source = source_of(301)
        for d in range(1, 5):
            for P in samples(d, 302, 3):
                forms = [some_row(source, d, most) for most in (1, 9, 9999)] + [(0,) * d, (1,) + (0,) * (d - 1)]
                for form in forms:
                    values = vertex_values_by_words(P, form)
                    for start in range(len(values)):
                        way = rising_way(P, form, start)
                        self.assertTrue(rising_by_words(P, form, way))
                        self.assertIs(is_rising_way(P, form, way), True)
                        self.assertEqual(way[0], start)
                        self.assertEqual(values[way[-1]], max(values))
                        if values[start] == max(values):
                            self.assertEqual(way, (start,))

    def test_known(self):
        self.assertEqual(rising_way(cube(1), (1,), 0), (0, 1))
        self.assertEqual(rising_way(cube(1), (-3,), 0), (0,))
        self.assertEqual(rising_way(cube(2), (1, 2), 3), (3,))
        self.assertEqual(len(rising_way(cube(4), (1, 1, 1, 1), 0)), 5)
        self.assertEqual(rising_way(cube(3), (0, 0, 0), 5), (5,))
        self.assertEqual(rising_way(simplex(3), (0, 0, 7), 2), (2, 1))
        # The vertices of the best face count as its end, whichever is reached.
        self.assertEqual(rising_way(cube(2), (1, 0), 0), (0, 2))
        self.assertEqual(rising_way(cube(2), (1, 0), 1), (1, 3))

    def test_long_polygon(self):
        P = cyclic(2, 12)
        self.assertEqual(rising_way(P, (0, -1), 10)[-1], 0)
        way = rising_way(P, (-1, 0), 11)
        self.assertTrue(rising_by_words(P, (-1, 0), way))
        self.assertEqual((way[0], way[-1]), (11, 0))


class IsRisingWayTest(unittest.TestCase):
    def test_all_short_rows(self):
        source = source_of(303)
        for P in (cube(1), cube(2), simplex(3), cross(3), cyclic(4, 6)):
            d, many = P.dimension(), len(P.vertices())
            for form in (some_row(source, d, 3), (0,) * d, (1,) * d):
                for length in (1, 2, 3):
                    for value in itertools.product(range(many), repeat=length):
                        self.assertIs(is_rising_way(P, form, value), rising_by_words(P, form, value), value)

    def test_whatever_its_ends_are(self):
        self.assertIs(is_rising_way(cube(2), (1, 2), (1,)), True)
        self.assertIs(is_rising_way(cube(2), (1, 2), (0, 1)), True)
        self.assertIs(is_rising_way(cube(2), (1, 2), (0, 1, 3)), True)
        self.assertIs(is_rising_way(cube(2), (1, 2), (2, 3)), True)

    def test_rows_that_are_no_rising_ways(self):
        P = cube(2)
        self.assertIs(is_rising_way(P, (1, 2), (1, 0)), False)       # it falls
        self.assertIs(is_rising_way(P, (1, 2), (0, 0)), False)       # two equal neighbours
        self.assertIs(is_rising_way(P, (1, 2), (0, 3)), False)       # no ends of an edge
        self.assertIs(is_rising_way(P, (1, 0), (0, 1)), False)       # equal values
        self.assertIs(is_rising_way(P, (0, 0), (0, 1)), False)
        self.assertIs(is_rising_way(P, (1, 2), (0, 4)), False)       # no such vertices
        self.assertIs(is_rising_way(P, (1, 2), (-4, 1)), False)
        self.assertIs(is_rising_way(P, (1, 2), (4,)), False)
        self.assertIs(is_rising_way(P, (1, 2), (-1,)), False)

    def test_values_of_any_kind(self):
        for P in (cube(1), cube(3), simplex(4)):
            form = (1, 2, 3, 4)[:P.dimension()]
            right = rising_way(P, form, 0)
            for value in ODD_VALUES + list(variants(right)) + [(True,), (False, True), (0, True), (0.0,)]:
                self.assertIs(is_rising_way(P, form, value), rising_by_words(P, form, value), value)
        for value in (None, (), [], [0], True, 0, "0", (True,), (0, 1.0), ((0,),)):
            self.assertIs(is_rising_way(cube(1), (1,), value), False)


class DistanceTest(unittest.TestCase):
    def test_random(self):
        for d in range(1, 5):
            for P in samples(d, 304):
                table = distances_by_words(P)
                for (first, second), steps in table.items():
                    self.assertEqual(distance(P, first, second), steps)
                self.assertEqual(diameter(P), max(table.values()))

    def test_known(self):
        for d in range(1, 5):
            self.assertEqual(diameter(cube(d)), d)
            self.assertEqual(diameter(cross(d)), min(d, 2))
            self.assertEqual(diameter(simplex(d)), 1)
        self.assertEqual(diameter(cyclic(2, 12)), 6)
        self.assertEqual(diameter(cyclic(2, 11)), 5)
        self.assertEqual(diameter(cyclic(4, 12)), 1)
        self.assertEqual(distance(cube(3), 0, 7), 3)
        self.assertEqual(distance(cube(3), 5, 5), 0)
        self.assertEqual(distance(cross(3), 0, 5), 2)
