"""Points 10.1 and 10.2: polytopes that are changed step by step."""

import unittest

from hullwright.builder import Builder
from hullwright.errors import Empty, Flat, NoSuch
from hullwright.known import cube
from hullwright.polytopes import common_part, hull, same
from hullwright.volumes import volume
from tests.samples import lists_of
from tests.support import (
    axis_row, box_rows, corners_by_words, hull_rows_by_words, is_flat_list, product_of, rank_by_words, some_inequality,
    some_point, source_of, tight_everywhere)


class BuilderTest(unittest.TestCase):
    def assert_state(self, d, builder, points, inequalities):
        """Compare a builder with the polytope that is made anew from its lists."""
        self.assertEqual(builder.points(), points)
        self.assertEqual(builder.inequalities(), inequalities)
        corners = corners_by_words(d, hull_rows_by_words(d, points) + inequalities) if points else []
        if corners == []:
            self.assertEqual(builder.state(), "empty")
            self.assertRaises(Empty, builder.polytope)
            self.assertEqual(builder.volume(), (0, 1))
        elif is_flat_list(d, corners):
            self.assertEqual(builder.state(), "flat")
            with self.assertRaises(Flat) as caught:
                builder.polytope()
            self.assertTrue(tight_everywhere(d, caught.exception.inequality, corners))
            self.assertEqual(builder.volume(), (0, 1))
        else:
            self.assertEqual(builder.state(), "polytope")
            anew = hull(d, corners)
            self.assertEqual(lists_of(builder.polytope()), lists_of(anew))
            self.assertEqual(builder.volume(), volume(anew))
            self.assertTrue(same(common_part(d, hull(d, points).facets() + inequalities), anew))
        return builder.state()

    def test_example(self):
        b = Builder(1)
        self.assertIs(b.add((1, 0)), True)
        self.assertEqual(b.state(), "flat")
        self.assertIs(b.add((1, 0)), False)
        self.assertIs(b.add((1, 5)), True)
        self.assertEqual(b.state(), "polytope")
        self.assertEqual(b.volume(), (5, 1))
        self.assertIs(b.cut((3, -1)), True)
        self.assertIs(b.cut((3, -1)), False)
        self.assertEqual(b.polytope().vertices(), [(1, 0), (1, 3)])
        self.assertIs(b.cut((-3, 1)), True)
        self.assertEqual(b.state(), "flat")
        self.assertIs(b.cut((-4, 1)), True)
        self.assertEqual(b.state(), "empty")

    def test_without_points(self):
        for d in range(1, 5):
            builder = Builder(d)
            self.assertIs(builder.undo(), False)
            self.assert_state(d, builder, [], [])
            builder.cut(axis_row(d, 1, 0, 1))
            self.assert_state(d, builder, [], [axis_row(d, 1, 0, 1)])
            self.assertRaises(NoSuch, builder.remove, (1,) + (0,) * d)
            self.assertRaises(NoSuch, builder.uncut, axis_row(d, 1, 0, -1))

    def test_flat_hulls(self):
        for d in range(1, 5):
            point = (2,) + (3,) * d
            builder = Builder(d)
            builder.add(point)
            self.assertEqual(self.assert_state(d, builder, [point], []), "flat")
            tight = axis_row(d, -3, 0, 2)
            for inequality, word in ((tight, "flat"), (axis_row(d, 3, d - 1, -2), "flat"),
                                     (axis_row(d, 1, 0, -1), "empty")):
                builder.cut(inequality)
                self.assertEqual(self.assert_state(d, builder, [point], builder.inequalities()), word)
            if d > 1:
                # A segment, of which two inequalities leave a part, a point, or nothing although each leaves a part.
                ends = [(1,) + (0,) * d, (1,) + (4,) * d]
                for first, second, word in ((-1, 3, "flat"), (-2, 2, "flat"), (-3, 1, "empty")):
                    builder = Builder(d)
                    for end in ends:
                        builder.add(end)
                    rows = [axis_row(d, first, 0, 1), axis_row(d, second, d - 1, -1)]
                    for row in rows:
                        builder.cut(row)
                    self.assertEqual(self.assert_state(d, builder, ends, rows), word)

    def test_lists_are_new(self):
        builder = Builder(2)
        for vertex in cube(2).vertices():
            builder.add(vertex)
        builder.cut((1, 1, 1))
        builder.points().clear()
        builder.inequalities().append((1, 0, 1))
        self.assert_state(2, builder, cube(2).vertices(), [(1, 1, 1)])
        P = builder.polytope()
        before = lists_of(P)
        builder.cut((0, 1, 0))
        builder.remove((1, 1, 1))
        self.assertEqual(lists_of(P), before)

    def test_builders_are_apart(self):
        first, second = Builder(2), Builder(2)
        first.add((1, 0, 0))
        first.cut((1, 1, 1))
        self.assertEqual((second.points(), second.inequalities()), ([], []))
        self.assertIs(second.undo(), False)

    def test_order_of_the_lists(self):
        builder = Builder(1)
        for k in (5, -3, 9, 0):
            builder.add((1, k))
            builder.cut((100 + k, 1))
        builder.remove((1, -3))
        builder.uncut((109, 1))
        self.assertEqual(builder.points(), [(1, 5), (1, 9), (1, 0)])
        self.assertEqual(builder.inequalities(), [(105, 1), (97, 1), (100, 1)])
        builder.add((1, -3))
        self.assertEqual(builder.points(), [(1, 5), (1, 9), (1, 0), (1, -3)])
        self.assertIs(builder.undo(), True)
        self.assertIs(builder.undo(), True)
        self.assertEqual(builder.inequalities(), [(105, 1), (97, 1), (109, 1), (100, 1)])
        self.assertIs(builder.undo(), True)
        self.assertEqual(builder.points(), [(1, 5), (1, -3), (1, 9), (1, 0)])

    def test_undo_each_kind(self):
        builder = Builder(1)
        builder.add((1, 0))
        builder.add((1, 2))
        builder.cut((1, -1))
        for change, value in ((builder.add, (1, 7)), (builder.remove, (1, 0)), (builder.cut, (0, 1)),
                              (builder.uncut, (1, -1))):
            before = (builder.points(), builder.inequalities())
            change(value)
            self.assertNotEqual((builder.points(), builder.inequalities()), before)
            self.assertIs(builder.undo(), True)
            self.assertEqual((builder.points(), builder.inequalities()), before)

    def test_what_is_no_change_is_not_taken_back(self):
        builder = Builder(1)
        builder.add((1, 0))
        builder.cut((0, 1))
        self.assertIs(builder.add((1, 0)), False)
        self.assertIs(builder.cut((0, 1)), False)
        self.assertRaises(NoSuch, builder.remove, (1, 1))
        self.assertRaises(NoSuch, builder.uncut, (1, 1))
        self.assertEqual((builder.points(), builder.inequalities()), ([(1, 0)], [(0, 1)]))
        self.assertIs(builder.undo(), True)
        self.assertEqual((builder.points(), builder.inequalities()), ([(1, 0)], []))
        self.assertIs(builder.undo(), True)
        self.assertEqual((builder.points(), builder.inequalities()), ([], []))
        self.assertIs(builder.undo(), False)
        self.assertEqual((builder.points(), builder.inequalities()), ([], []))

    def test_points_and_inequalities_that_change_nothing(self):
        for d in range(1, 5):
            builder = Builder(d)
            for vertex in cube(d).vertices():
                builder.add(vertex)
            for point in ((1,) + (0,) * d, (2,) + (1,) * d, (1,) + (1,) * (d - 1) + (0,)):
                builder.add(point)
                self.assertEqual(lists_of(builder.polytope()), lists_of(cube(d)))
            for row in box_rows(d, 1) + box_rows(d, 5) + [(d,) + (1,) * d]:
                builder.cut(row)
                self.assertEqual(lists_of(builder.polytope()), lists_of(cube(d)))

    def random_change(self, source, d, builder, points, inequalities, history):
        """Make a random change, also on the lists, which it returns."""
        kind = source.choice(["add", "add", "add", "remove", "cut", "cut", "uncut", "undo"])
        before = (list(points), list(inequalities))
        if kind == "undo":
            self.assertIs(builder.undo(), history != [])
            return history.pop() if history else before
        entry = some_point(source, d, 2) if kind in ("add", "remove") else some_inequality(source, d, 2)
        row = points if kind in ("add", "remove") else inequalities
        if row and source.random() < 0.6 and kind in ("remove", "uncut"):
            entry = source.choice(row)
        if kind in ("add", "cut"):
            self.assertIs(getattr(builder, kind)(entry), entry not in row)
            if entry not in row:
                row.append(entry)
        elif entry in row:
            self.assertIsNone(getattr(builder, kind)(entry))
            row.remove(entry)
        else:
            self.assertRaises(NoSuch, getattr(builder, kind), entry)
        if (points, inequalities) != before:
            history.append(before)
        return points, inequalities

    def test_random_changes(self):
        source = source_of(201)
        words = set()
        for d, many in ((1, 80), (2, 120), (3, 40)):
            builder, points, inequalities, history = Builder(d), [], [], []
            for _ in range(many):
                points, inequalities = self.random_change(source, d, builder, points, inequalities, history)
                words.add(self.assert_state(d, builder, points, inequalities))
            while history:
                points, inequalities = history.pop()
                self.assertIs(builder.undo(), True)
                self.assertEqual((builder.points(), builder.inequalities()), (points, inequalities))
            self.assertIs(builder.undo(), False)
        self.assertEqual(words, {"empty", "flat", "polytope"})

    def test_dimension_four(self):
        builder = Builder(4)
        for vertex in cube(4).vertices():
            points = builder.points()
            full = rank_by_words(points) == 5
            self.assertEqual(builder.state(), "polytope" if full else "flat" if points else "empty")
            builder.add(vertex)
        for row in ((0, 1, 1, 1, 1), (3, 1, 2, 3, 4), (1, 0, 0, 2, -3)):
            builder.cut(row)
            P = builder.polytope()
            self.assertTrue(same(P, common_part(4, box_rows(4, 1) + builder.inequalities())))
            self.assertEqual(builder.volume(), volume(P))
            self.assertTrue(all(product_of(row, vertex) >= 0 for vertex in P.vertices()))
