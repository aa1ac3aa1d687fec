"""Points 6.1 to 6.3 and 6.5: faces."""

import itertools
import unittest

from hullwright.errors import BadFace
from hullwright.faces import (
    face_dimension, face_numbers, face_polytope, faces, facets_of, flags, graph, is_face, is_simple, is_simplicial,
    join, meet, supporting)
from hullwright.known import cross, cube, cyclic, simplex
from hullwright.polytopes import hull, same
from tests.support import (
    ODD_VALUES, divided, inequality_by_words, is_flat_list, product_of, rank_by_words, satisfied_everywhere,
    some_points, source_of, variants, whole_row)


def polytopes():
    """Return polytopes of all dimensions with at most 10 facets."""
    found = [f(d) for d in range(1, 5) for f in (cube, simplex)] + [cross(d) for d in range(1, 4)]
    found += [cyclic(1, 5), cyclic(2, 7), cyclic(3, 6), cyclic(4, 6)]
    found.append(hull(3, [(1, 0, 0, 0), (1, 4, 0, 0), (1, 4, 4, 0), (1, 0, 4, 0), (1, 2, 2, 3)]))
    source = source_of(37)
    while len(found) < 40:
        d = source.randint(1, 4)
        points = some_points(source, d, source.randint(d + 1, d + 4), source.choice([2, 9]))
        if not is_flat_list(d, points) and len(hull(d, points).facets()) <= 10:
            found.append(hull(d, points))
    return found


POLYTOPES = polytopes()


def faces_by_words(P):
    """Return the set of the common vertices of all sets of facets."""
    found = set()
    vertices = P.vertices()
    tight = [{k for k, vertex in enumerate(vertices) if product_of(facet, vertex) == 0} for facet in P.facets()]
    for many in range(len(tight) + 1):
        for chosen in itertools.combinations(tight, many):
            common = set(range(len(vertices)))
            for row in chosen:
                common &= row
            found.add(tuple(sorted(common)))
    return found


def dimension_by_words(P, face):
    """Return the rank of the vertices of a face minus 1."""
    return rank_by_words([P.vertices()[k] for k in face]) - 1


def is_whole_tuple(value):
    """Tell whether a value is a tuple of integers."""
    return isinstance(value, tuple) and whole_row(len(value), value)


class FacesTest(unittest.TestCase):
    def test_faces(self):
        for P in POLYTOPES:
            found = faces(P)
            self.assertIsInstance(found, list)
            self.assertEqual(len(found), P.dimension() + 2)
            self.assertEqual({face for row in found for face in row}, faces_by_words(P))
            for k, row in enumerate(found):
                self.assertEqual(row, sorted(set(row)))
                self.assertTrue(all(dimension_by_words(P, face) == k - 1 for face in row))
            self.assertEqual(found[0], [()])
            self.assertEqual(found[-1], [tuple(range(len(P.vertices())))])
            self.assertEqual(found[-2], sorted(P.incidence()))

    def test_lists_are_new(self):
        P = cube(3)
        found = faces(P)
        for row in found:
            row.clear()
        self.assertEqual([len(row) for row in faces(P)], [1, 8, 12, 6, 1])
        for function in (face_numbers, graph):
            first = function(P)
            before = list(first)
            first.clear()
            self.assertEqual(function(P), before)

    def test_face_numbers(self):
        self.assertEqual(face_numbers(simplex(1)), [2, 1])
        self.assertEqual(face_numbers(cube(3)), [8, 12, 6, 1])
        self.assertEqual(face_numbers(cube(4)), [16, 32, 24, 8, 1])
        self.assertEqual(face_numbers(cross(4)), [8, 24, 32, 16, 1])
        self.assertEqual(face_numbers(simplex(4)), [5, 10, 10, 5, 1])
        for n in range(5, 13):
            expected = [n, n * (n - 1) // 2, n * (n - 3), n * (n - 3) // 2, 1]
            self.assertEqual(face_numbers(cyclic(4, n)), expected)
        for P in POLYTOPES:
            numbers = face_numbers(P)
            self.assertEqual(len(numbers), P.dimension() + 1)
            self.assertEqual(sum((-1) ** k * number for k, number in enumerate(numbers)), 1)

    def test_face_dimension(self):
        for P in POLYTOPES[:20]:
            for face in faces_by_words(P):
                self.assertEqual(face_dimension(P, face), dimension_by_words(P, face))
        self.assertEqual(face_dimension(cube(2), ()), -1)

    def test_is_face(self):
        for P in POLYTOPES:
            known = faces_by_words(P)
            many = len(P.vertices())
            if many <= 8:
                for length in range(many + 1):
                    for value in itertools.combinations(range(many), length):
                        self.assertIs(is_face(P, value), value in known)
            for face in sorted(known)[:6]:
                for value in variants(face):
                    right = is_whole_tuple(value) and value in known
                    self.assertIs(is_face(P, value), right, value)

    def test_is_face_with_any_value(self):
        P = simplex(2)
        for value in ODD_VALUES:
            right = is_whole_tuple(value) and value in faces_by_words(P)
            self.assertIs(is_face(P, value), right)
        for value in [(1, 0), (0, 0), (3,), (-1,), (0, 3), (True,), (0, True), [0], (0.0,), {0: 1}, "0"]:
            self.assertIs(is_face(P, value), False)
        for value in [(), (0,), (1, 2), (0, 1, 2)]:
            self.assertIs(is_face(P, value), True)

    def test_meet_and_join(self):
        for P in POLYTOPES:
            known = sorted(faces_by_words(P))
            pairs = itertools.product(known, known) if len(known) < 30 else zip(known, known[::-1])
            for first, second in pairs:
                common = tuple(sorted(set(first) & set(second)))
                self.assertEqual(meet(P, first, second), common)
                larger = [face for face in known if set(first) | set(second) <= set(face)]
                self.assertEqual(join(P, first, second), min(larger, key=len))

    def test_facets_of(self):
        for P in POLYTOPES[:25]:
            vertices, facets = P.vertices(), P.facets()
            for face in faces_by_words(P):
                expected = [k for k, facet in enumerate(facets)
                            if all(product_of(facet, vertices[at]) == 0 for at in face)]
                self.assertEqual(facets_of(P, face), expected)
            self.assertEqual(facets_of(P, ()), list(range(len(facets))))
            self.assertEqual(facets_of(P, tuple(range(len(vertices)))), [])

    def test_supporting(self):
        for P in POLYTOPES:
            d, vertices = P.dimension(), P.vertices()
            for row in faces(P)[1:-1]:
                for face in row:
                    found = supporting(P, face)
                    self.assertTrue(inequality_by_words(d, found))
                    self.assertTrue(satisfied_everywhere(found, vertices))
                    tight = tuple(k for k, vertex in enumerate(vertices) if product_of(found, vertex) == 0)
                    self.assertEqual(tight, face)

    def test_bad_faces(self):
        P = cube(3)
        good = [face for row in faces(P)[1:-1] for face in row]
        bad = [value for value in ODD_VALUES if not is_whole_tuple(value) or value not in good]
        for value in bad + [(0, 3), (0, 1, 2), (1, 0), [0, 1], (8,), tuple(range(8))]:
            with self.assertRaises(BadFace):
                supporting(P, value)
        for value in [(0, 3), (0, 1, 2), (1, 0), [0, 1], (8,), (), (0,), None, "x", (True, 2), (0, 1, 2, 3, 4)]:
            with self.assertRaises(BadFace):
                face_polytope(P, value)

    def test_graph(self):
        self.assertEqual(graph(simplex(1)), [(0, 1)])
        self.assertEqual(graph(cube(2)), [(0, 1), (0, 2), (1, 3), (2, 3)])
        for P in POLYTOPES:
            expected = sorted(face for face in faces_by_words(P) if dimension_by_words(P, face) == 1)
            self.assertEqual(graph(P), expected)
            self.assertTrue(all(len(edge) == 2 for edge in expected))

    def test_flags(self):
        self.assertEqual([flags(simplex(d)) for d in range(1, 5)], [2, 6, 24, 120])
        self.assertEqual([flags(cube(d)) for d in range(1, 5)], [2, 8, 48, 384])
        self.assertEqual([flags(cross(d)) for d in range(1, 5)], [2, 8, 48, 384])
        for P in POLYTOPES:
            self.assertEqual(flags(P), self.count_rows(faces(P)[1:-1], None))

    def count_rows(self, rows, inner):
        """Return the number of the ways to go up from an inner face."""
        if not rows:
            return 1
        return sum(self.count_rows(rows[1:], face) for face in rows[0] if inner is None or set(inner) <= set(face))

    def test_simple_and_simplicial(self):
        for d in range(1, 5):
            self.assertIs(is_simple(cube(d)), True)
            self.assertIs(is_simplicial(cross(d)), True)
            self.assertIs(is_simple(cross(d)), d < 3)
            self.assertIs(is_simplicial(cube(d)), d < 3)
            self.assertIs(is_simple(simplex(d)) and is_simplicial(simplex(d)), True)
        self.assertIs(is_simplicial(cyclic(4, 7)), True)
        self.assertIs(is_simple(cyclic(4, 7)), False)
        for P in POLYTOPES:
            d, rows = P.dimension(), P.incidence()
            counts = [sum(1 for row in rows if k in row) for k in range(len(P.vertices()))]
            self.assertIs(is_simple(P), all(many == d for many in counts))
            self.assertIs(is_simplicial(P), all(len(row) == d for row in rows))


class FacePolytopeTest(unittest.TestCase):
    def kept(self, points):
        """Return the columns that the document keeps."""
        columns = [0]
        for k in range(1, len(points[0])):
            more = columns + [k]
            if rank_by_words([tuple(p[c] for c in more) for p in points]) > \
                    rank_by_words([tuple(p[c] for c in columns) for p in points]):
                columns = more
        return columns

    def test_by_the_words(self):
        for P in POLYTOPES:
            for k, row in enumerate(faces(P)[2:], 1):
                for face in row:
                    points = [P.vertices()[at] for at in face]
                    columns = self.kept(points)
                    self.assertEqual(len(columns), k + 1)
                    Q = face_polytope(P, face)
                    self.assertEqual(Q.dimension(), k)
                    images = [divided(tuple(p[c] for c in columns)) for p in points]
                    self.assertEqual(Q.vertices(), sorted(images))
                    inner = {tuple(sorted(Q.vertices().index(images[face.index(at)]) for at in part))
                             for part in faces_by_words(P) if set(part) <= set(face)}
                    self.assertEqual(inner, faces_by_words(Q))

    def test_whole_polytope(self):
        for P in POLYTOPES:
            self.assertTrue(same(face_polytope(P, tuple(range(len(P.vertices())))), P))

    def test_example(self):
        P = hull(3, [(1, 0, 0, 0), (1, 0, 2, 0), (1, 0, 0, 3), (1, 5, 0, 0)])
        self.assertEqual(face_polytope(P, (0, 1, 2)).vertices(), [(1, 0, 0), (1, 0, 3), (1, 2, 0)])
        half = hull(2, [(2, 1, 1), (2, 1, 3), (1, 1, 0)])
        self.assertEqual(half.vertices(), [(1, 1, 0), (2, 1, 1), (2, 1, 3)])
        self.assertEqual(face_polytope(half, (1, 2)).vertices(), [(2, 1), (2, 3)])
