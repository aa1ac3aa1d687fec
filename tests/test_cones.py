"""Part 14: cone papers, normals, parallel polytopes, and the cones at vertices."""

import itertools
import unittest

from hullwright.cones import (
    are_parallel, check_cone, cone_paper, edge_vectors, normal_paper, normals, tangent_facets)
from hullwright.errors import BadFace
from hullwright.faces import face_dimension, facets_of, faces
from hullwright.known import cross, cube, cyclic, simplex
from hullwright.making import half, moved, scaled, shifted, summed
from hullwright.optimum import best_face
from hullwright.polytopes import common_part, hull
from tests.samples import all_faces_by_words, edges_by_words, random_polytope, samples
from tests.support import (
    ODD_VALUES, box_rows, det_by_words, divided, exact, product_of, rank_by_words, reduced_form, some_row, source_of, variants,
    weighted, weights_by_words, whole, whole_row, words_of)


def right_cone(d, generators, vector, value):
    """Tell whether a value is a right cone paper, by the words of point 14.1."""
    if words_of(value, "yes", 3):
        _, weights, t = value
        if not weights_by_words(len(generators), weights) or not whole(t) or t < 1:
            return False
        return weighted(weights, generators) == tuple(t * entry for entry in vector)
    if words_of(value, "no", 2):
        other = value[1]
        if not whole_row(d, other) or product_of(other, vector) >= 0:
            return False
        return all(product_of(other, generator) >= 0 for generator in generators)
    return False


def in_cone_by_words(generators, vector):
    """Tell whether a vector is in a cone: some independent generators lead to it with numbers of at least 0."""
    if not any(vector):
        return True
    for many in range(1, len(vector) + 1):
        for chosen in itertools.combinations(generators, many):
            if rank_by_words(chosen) == many:
                rows = [tuple(generator[k] for generator in chosen) + (vector[k],) for k in range(len(vector))]
                solved = reduced_form(rows)
                if all(any(row[:-1]) for row in solved) and all(row[-1] >= 0 for row in solved):
                    return True
    return False


def turned(vector):
    """Return a vector with all signs changed."""
    return tuple(-entry for entry in vector)


class ConePaperTest(unittest.TestCase):
    def assert_paper(self, d, generators, vector):
        before = list(generators)
        paper = cone_paper(d, generators, vector)
        self.assertEqual(generators, before)
        self.assertTrue(right_cone(d, generators, vector, paper), (generators, vector, paper))
        self.assertIs(check_cone(d, generators, vector, paper), True)
        self.assertEqual(paper[0] == "yes", in_cone_by_words(generators, vector))
        return paper[0]

    def test_known(self):
        generators = [(1, 0), (1, 1)]
        for vector, word in (((3, 1), "yes"), ((1, 0), "yes"), ((2, 2), "yes"), ((0, 0), "yes"), ((0, 1), "no"),
                             ((-1, 0), "no"), ((1, 2), "no"), ((9999, 9998), "yes"), ((9998, 9999), "no")):
            self.assertEqual(self.assert_paper(2, generators, vector), word)

    def test_generators_with_zeros_and_lines(self):
        self.assertEqual(self.assert_paper(2, [(0, 0)], (0, 0)), "yes")
        self.assertEqual(self.assert_paper(2, [(0, 0)], (0, 1)), "no")
        self.assertEqual(self.assert_paper(2, [(0, 0), (1, 2), (0, 0)], (3, 6)), "yes")
        self.assertEqual(self.assert_paper(2, [(1, 2), (-1, -2)], (-3, -6)), "yes")
        self.assertEqual(self.assert_paper(2, [(1, 2), (-1, -2)], (3, 5)), "no")
        self.assertEqual(self.assert_paper(1, [(2,), (-3,)], (-1,)), "yes")
        self.assertEqual(self.assert_paper(1, [(2,)], (-1,)), "no")
        self.assertEqual(self.assert_paper(3, [(1, 0, 0), (-1, 0, 0), (0, 1, 0)], (-7, 2, 0)), "yes")
        self.assertEqual(self.assert_paper(3, [(1, 0, 0), (-1, 0, 0), (0, 1, 0)], (-7, -2, 0)), "no")
        self.assertEqual(self.assert_paper(3, [(1, 0, 0), (-1, 0, 0), (0, 1, 0)], (-7, 2, 1)), "no")

    def test_random(self):
        source = source_of(331)
        words = set()
        for d in range(1, 5):
            for _ in range(60):
                most = source.choice([1, 3, 9999])
                generators = [some_row(source, d, most) for _ in range(source.randint(1, 6))]
                vectors = [some_row(source, d, most), (0,) * d, source.choice(generators),
                           turned(source.choice(generators))]
                # On a side of the cone, or at least in it.
                vectors.append(tuple(a + 2 * b for a, b in zip(source.choice(generators), source.choice(generators))))
                for vector in vectors:
                    words.add((d, self.assert_paper(d, generators, vector)))
        self.assertEqual(len(words), 8)

    def test_check_tells_the_truth(self):
        source = source_of(332)
        for d in range(1, 5):
            for _ in range(4):
                generators = [some_row(source, d, 2) for _ in range(source.randint(1, 4))]
                for vector in (some_row(source, d, 3), source.choice(generators), turned(source.choice(generators))):
                    paper = cone_paper(d, generators, vector)
                    for value in variants(paper):
                        right = right_cone(d, generators, vector, value)
                        self.assertIs(check_cone(d, generators, vector, value), right, value)

    def test_papers_of_others(self):
        source = source_of(333)
        lists = [[some_row(source, 2, 2) for _ in range(3)] for _ in range(8)]
        vectors = [(0, 0), (1, 0), (-1, 2), (2, 2), (-1, -1)]
        papers = [cone_paper(2, generators, vector) for generators in lists for vector in vectors]
        for generators in lists:
            for vector in vectors:
                for paper in papers:
                    right = right_cone(2, generators, vector, paper)
                    self.assertIs(check_cone(2, generators, vector, paper), right)

    def test_values_of_any_kind(self):
        for d, generators in ((1, [(1,)]), (2, [(1, 0), (1, 1)]), (4, [(1, 0, 0, 0), (0, 0, 0, 0)])):
            vector = generators[0]
            for value in ODD_VALUES + [("yes", (1, 0), True), ("yes", [1, 0], 1), ("yes", (1, 0), 1.0),
                                       ("yes", (1.0, 0), 1), ["yes", (1, 0), 1], ("yes", (1, 0), 0),
                                       ("yes", (0,) * len(generators), 0), ("no", [-1] * d), ("no", (-1.0,) * d),
                                       ("no", (True,) * d), ("no", (0,) * d), ("maybe", (1, 0), 1)]:
                self.assertIs(check_cone(d, generators, vector, value), right_cone(d, generators, vector, value))
        self.assertIs(check_cone(2, [(1, 0), (1, 1)], (3, 1), ("yes", (2, 1), 1)), True)
        self.assertIs(check_cone(2, [(1, 0), (1, 1)], (3, 1), ("yes", (4, 2), 2)), True)
        self.assertIs(check_cone(2, [(1, 0), (1, 1)], (3, 1), ("yes", (4, 2), 1)), False)
        self.assertIs(check_cone(2, [(1, 0), (1, 1)], (-3, 1), ("yes", (-4, 1), 1)), False)


class NormalsTest(unittest.TestCase):
    def test_normals(self):
        for d in range(1, 5):
            for P in samples(d, 334, 2):
                vertices = P.vertices()
                for face in all_faces_by_words(P):
                    if face != ():
                        right = [facet[1:] for facet in P.facets()
                                 if all(product_of(facet, vertices[k]) == 0 for k in face)]
                        self.assertEqual(normals(P, face), right)
                self.assertEqual(normals(P, tuple(range(len(vertices)))), [])
        self.assertEqual(normals(cube(2), (0,)), [(0, 1), (1, 0)])
        self.assertEqual(normals(hull(1, [(2, 1), (1, 2)]), (0,)), [(-1,)])

    def test_normal_paper(self):
        source = source_of(335)
        for d in range(1, 5):
            for P in samples(d, 336, 2):
                forms = [some_row(source, d, most) for most in (1, 5, 9999)] + [(0,) * d]
                forms += [turned(facet[1:]) for facet in P.facets()[:3]]
                for face in all_faces_by_words(P):
                    if face == () or len(face) == len(P.vertices()):
                        for form in forms[:2]:
                            self.assertRaises(BadFace, normal_paper, P, face, form)
                        continue
                    turned_normals = [turned(row) for row in normals(P, face)]
                    for form in forms:
                        paper = normal_paper(P, face, form)
                        self.assertTrue(right_cone(d, turned_normals, form, paper))
                        self.assertIs(check_cone(d, turned_normals, form, paper), True)
                        values = [sum(b * x for b, x in zip(form, exact(vertex))) for vertex in P.vertices()]
                        best = all(values[k] == max(values) for k in face)
                        self.assertEqual(paper[0] == "yes", best)

    def test_bad_faces(self):
        for P in (cube(1), cube(3), simplex(2)):
            d, many = P.dimension(), len(P.vertices())
            # The vertices (0,) and (1,) stand among the odd values.
            odd = [value for value in ODD_VALUES if repr(value) not in ("(0,)", "(1,)")]
            for value in odd + [(), tuple(range(many)), (many,), (-1,), [0], (1, 0), (0, 0), (True,), (0.0,)]:
                if repr(value) != "(0, 1)":
                    self.assertRaises(BadFace, normal_paper, P, value, (1,) * d)
        self.assertRaises(BadFace, normal_paper, cube(1), (0, 1), (1,))
        self.assertRaises(BadFace, normal_paper, cube(2), (0, 3), (1, 0))


def parallel_by_words(P, Q):
    """Tell whether two polytopes are parallel: it is asked of a form for each face of their sum."""
    both = summed(P, Q)
    facets = both.facets()
    best = []
    for row in faces(both)[1:]:
        for face in row:
            form = [0] * P.dimension()
            for k in facets_of(both, face):
                form = [a - b for a, b in zip(form, facets[k][1:])]
            best.append((best_face(P, tuple(form)), best_face(Q, tuple(form))))
    if any(face_dimension(P, first) != face_dimension(Q, second) for first, second in best):
        return False
    return len(set(best)) == len({first for first, _ in best}) == len({second for _, second in best})


class ParallelTest(unittest.TestCase):
    def assert_parallel(self, P, Q, answer):
        self.assertEqual(parallel_by_words(P, Q), answer)
        self.assertIs(are_parallel(P, Q), answer)
        self.assertIs(are_parallel(Q, P), answer)

    def test_parallel_ones(self):
        for d in range(1, 5):
            for P in samples(d, 337, 2):
                self.assert_parallel(P, P, True)
                self.assertIs(are_parallel(P, scaled(P, (7, 3))), True)
                self.assertIs(are_parallel(P, shifted(P, (3, 1, -2, 5, 7)[:d + 1])), True)
        box = moved(cube(3), [(2, 1, 5, 7), (0, 3, 0, 0), (0, 0, 1, 0), (0, 0, 0, 9)])
        self.assert_parallel(cube(3), box, True)
        self.assertIs(are_parallel(cube(3), summed(cube(3), box)), True)
        for P in (cube(2), simplex(2), cube(3)):
            d = P.dimension()
            self.assert_parallel(half(P, (3,) + (-2,) * d), half(P, (5,) + (-3,) * d), True)

    def test_others(self):
        self.assert_parallel(simplex(1), cube(1), True)
        for first, second in ((cube(2), cross(2)), (cube(2), simplex(2)), (simplex(2), scaled(simplex(2), (-1, 1))),
                              (simplex(3), scaled(simplex(3), (-1, 1))), (cube(3), cross(3)),
                              (cyclic(2, 5), cyclic(2, 6)), (cube(2), summed(cube(2), cross(2)))):
            self.assert_parallel(first, second, False)

    def test_a_facet_that_is_moved(self):
        # As long as no vertex vanishes, they are parallel.
        corner = [half(cube(2), (c, -2, -2)) for c in (1, 2, 3)]
        for first, second in itertools.combinations(corner, 2):
            self.assert_parallel(first, second, True)
        gone = half(cube(2), (0, -1, -1))
        for P in corner:
            self.assert_parallel(P, gone, False)
        # A roof whose ridge becomes a point, and one whose ridge turns: the facets keep their directions.
        rows = [(0, 0, 0, 1), (4, -1, 0, -1), (4, 1, 0, -1)]
        roofs = [common(rows + [(c, 0, -1, -1), (c, 0, 1, -1)]) for c in (3, 4, 5, 6)]
        for (i, first), (k, second) in itertools.product(enumerate(roofs), repeat=2):
            self.assert_parallel(first, second, i == k or min(i, k) >= 2)

    def test_random_pairs(self):
        source = source_of(338)
        found = set()
        for _ in range(40):
            d = source.choice([1, 2, 3])
            slopes = [tuple(source.randint(-1, 1) for _ in range(d)) for _ in range(d)]
            first, second = some_box(source, d, slopes), some_box(source, d, slopes)
            answer = parallel_by_words(first, second)
            self.assertIs(are_parallel(first, second), answer)
            found.add((d, answer))
            # A sum is parallel to both if they are parallel, and only then.
            both = summed(first, second)
            self.assertIs(are_parallel(first, both) and are_parallel(second, both), answer)
        self.assertEqual(found, {(1, True), (2, True), (2, False), (3, True), (3, False)})


def common(rows):
    """Return the polytope of the points that satisfy a system of the dimension 3."""
    return common_part(3, rows)


def some_box(source, d, slopes):
    """Return a random box, cut by inequalities with given slopes."""
    rows = [divided((source.randint(1, 4),) + slope) for slope in slopes if any(slope)]
    return common_part(d, box_rows(d, 4) + rows)


class VertexConesTest(unittest.TestCase):
    def test_edge_vectors(self):
        for d in range(1, 5):
            for P in samples(d, 339):
                vertices = P.vertices()
                edges = edges_by_words(P)
                for index, start in enumerate(vertices):
                    right = []
                    for pair in edges:
                        if index in pair:
                            end = vertices[sum(pair) - index]
                            right.append(divided(tuple(
                                start[0] * b - end[0] * a for a, b in zip(start[1:], end[1:]))))
                    found = edge_vectors(P, index)
                    self.assertEqual(found, sorted(right))
                    self.assertEqual(tangent_facets(P, index),
                                     [facet for facet in P.facets() if product_of(facet, start) == 0])

    def test_known(self):
        self.assertEqual(edge_vectors(simplex(2), 0), [(0, 1), (1, 0)])
        self.assertEqual(edge_vectors(simplex(2), 2), [(-1, 0), (-1, 1)])
        self.assertEqual(edge_vectors(cube(1), 1), [(-1,)])
        self.assertEqual(edge_vectors(hull(2, [(1, 0, 0), (2, 1, 0), (3, 0, 1)]), 1), [(-3, 2), (-1, 0)])
        self.assertEqual(tangent_facets(simplex(2), 0), [(0, 0, 1), (0, 1, 0)])
        self.assertEqual(tangent_facets(cube(1), 0), [(1, 1)])

    def test_cone_of_a_vertex(self):
        source = source_of(340)
        for d in range(1, 5):
            for P in (cube(d), cross(d), random_polytope(source, d, d + 2, 4)):
                for index, vertex in enumerate(P.vertices()):
                    vectors = edge_vectors(P, index)
                    facets = tangent_facets(P, index)
                    for _ in range(6):
                        vector = some_row(source, d, 3)
                        inside = all(product_of(facet[1:], vector) >= 0 for facet in facets)
                        self.assertEqual(cone_paper(d, vectors, vector)[0] == "yes", inside)
                    for other in P.vertices():
                        step = tuple(vertex[0] * b - other[0] * a for a, b in zip(vertex[1:], other[1:]))
                        self.assertEqual(cone_paper(d, vectors, step)[0], "yes")

    def test_determinants_of_simple_corners(self):
        for index in range(8):
            self.assertEqual(abs(det_by_words(edge_vectors(cube(3), index))), 1)
