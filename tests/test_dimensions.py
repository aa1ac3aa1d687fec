"""Point 7.5: new polytopes of other dimensions."""

import unittest
from fractions import Fraction

from hullwright.dimensions import bipyramid, corner_figure, prism, product, pyramid, section, shadow
from hullwright.errors import BadFace, BadSize, Empty, Flat
from hullwright.faces import face_numbers, faces, graph
from hullwright.known import cross, cube, cyclic, simplex
from hullwright.making import moved, scaled, shifted
from hullwright.polytopes import hull, same
from hullwright.shapes import shape_map
from tests.samples import assert_part, random_polytope, samples, some_map
from tests.support import divided, exact, pair_of, point_of, source_of


def averages(points):
    """Return the averages of the coordinates of points."""
    rows = [exact(point) for point in points]
    return [sum(column) / len(rows) for column in zip(*rows)]


class ProductTest(unittest.TestCase):
    def test_products(self):
        for d in range(1, 4):
            for e in range(1, 5 - d):
                for P, Q in zip(samples(d, 121, 2), reversed(samples(e, 122, 2))):
                    spots = sorted(point_of(exact(p) + exact(q)) for p in P.vertices() for q in Q.vertices())
                    R = product(P, Q)
                    self.assertEqual(R.dimension(), d + e)
                    self.assertEqual(R.vertices(), spots)
                    # The facets are those of P and those of Q, which ask nothing of the other coordinates.
                    rows = [facet + (0,) * e for facet in P.facets()]
                    rows += [facet[:1] + (0,) * d + facet[1:] for facet in Q.facets()]
                    self.assertEqual(R.facets(), sorted(rows))

    def test_known(self):
        self.assertTrue(same(product(cube(1), cube(3)), cube(4)))
        self.assertTrue(same(product(cube(2), cube(2)), cube(4)))
        P = product(hull(1, [(2, 1), (3, 1)]), hull(1, [(1, 5), (1, 6)]))
        self.assertEqual(P.vertices(), [(2, 1, 10), (2, 1, 12), (3, 1, 15), (3, 1, 18)])

    def test_bad_size(self):
        for d in range(1, 5):
            for e in range(5 - d, 5):
                self.assertRaises(BadSize, product, cube(d), simplex(e))


class PrismTest(unittest.TestCase):
    def test_prism(self):
        for d in range(1, 4):
            for P in samples(d, 123, 2):
                spots = sorted(point_of(exact(v) + (t,)) for v in P.vertices() for t in (0, 1))
                self.assertEqual(prism(P).vertices(), spots)
                self.assertEqual(prism(P).facets(), hull(d + 1, spots).facets())

    def test_pyramid(self):
        for d in range(1, 4):
            for P in samples(d, 124, 2):
                spots = [point_of(exact(v) + (0,)) for v in P.vertices()]
                spots.append(point_of(averages(P.vertices()) + [1]))
                self.assertEqual(pyramid(P).vertices(), sorted(spots))
                self.assertEqual(pyramid(P).facets(), hull(d + 1, spots).facets())
                self.assertEqual(len(pyramid(P).facets()), len(P.facets()) + 1)

    def test_bipyramid(self):
        for d in range(1, 4):
            for P in samples(d, 125, 2):
                spots = [point_of(exact(v) + (0,)) for v in P.vertices()]
                spots += [point_of(averages(P.vertices()) + [t]) for t in (1, -1)]
                self.assertEqual(bipyramid(P).vertices(), sorted(spots))
                self.assertEqual(bipyramid(P).facets(), hull(d + 1, spots).facets())
                self.assertEqual(len(bipyramid(P).facets()), 2 * len(P.facets()))

    def test_known(self):
        # The tip is above the average of the vertices, which is not the average of all corners of a triangle's sides.
        triangle = hull(2, [(1, 0, 0), (1, 3, 0), (1, 0, 6)])
        self.assertIn((1, 1, 2, 1), pyramid(triangle).vertices())
        self.assertTrue(same(bipyramid(cross(3)), cross(4)))
        self.assertEqual(prism(simplex(1)).vertices(), [(1, 0, 0), (1, 0, 1), (1, 1, 0), (1, 1, 1)])

    def test_bad_size(self):
        for P in (cube(4), simplex(4), cyclic(4, 7)):
            for function in (prism, pyramid, bipyramid):
                self.assertRaises(BadSize, function, P)


class ShadowTest(unittest.TestCase):
    def test_shadow(self):
        for d in range(2, 5):
            for P in samples(d, 126, 2):
                for k in range(1, d + 1):
                    spots = [point_of(exact(v)[:k - 1] + exact(v)[k:]) for v in P.vertices()]
                    Q = shadow(P, k)
                    self.assertEqual(Q.dimension(), d - 1)
                    self.assertTrue(same(Q, hull(d - 1, spots)))

    def test_known(self):
        self.assertEqual(shadow(simplex(2), 2).vertices(), [(1, 0), (1, 1)])
        self.assertEqual(shadow(hull(2, [(1, 0, 0), (1, 1, 5), (1, 9, 2)]), 1).vertices(), [(1, 0), (1, 5)])
        # Entries of a point may have a common divisor after one is taken away.
        self.assertEqual(shadow(hull(2, [(2, 1, 4), (2, 1, 2), (1, 0, 0)]), 1).vertices(), [(1, 0), (1, 2)])

    def test_bad_size(self):
        self.assertRaises(BadSize, shadow, cube(1), 1)


class SectionTest(unittest.TestCase):
    def assert_section(self, P, k, value):
        """Compare a section with the points of P in a plane, found from the edges."""
        d = P.dimension()
        height = Fraction(*value)
        rows = [self.row_in_plane(facet, k, height) for facet in P.facets()]
        if any(row[0] < 0 and not any(row[1:]) for row in rows):
            self.assertRaises(Empty, section, P, k, value)
            return "empty"
        asking = [divided(point_of(row)[1:]) for row in rows if any(row[1:])]
        return assert_part(self, d - 1, asking, lambda: section(P, k, value), (Empty, Flat))

    def row_in_plane(self, facet, k, height):
        return [facet[0] + height * facet[k]] + [Fraction(entry) for entry in facet[1:k] + facet[k + 1:]]

    def test_edges(self):
        for d in range(2, 5):
            for k in range(1, d + 1):
                self.assertTrue(same(section(cube(d), k, (1, 3)), cube(d - 1)))
                self.assertTrue(same(section(cube(d), k, (1, 1)), cube(d - 1)))
                self.assertTrue(same(section(cube(d), k, (-1, 1)), cube(d - 1)))
                self.assertRaises(Empty, section, cube(d), k, (4, 3))
                self.assertTrue(same(section(cross(d), k, (0, 1)), cross(d - 1)))
                self.assertTrue(same(section(cross(d), k, (1, 4)), scaled(cross(d - 1), (3, 4))))
                for value in ((1, 1), (-1, 1)):
                    self.assertEqual(self.assert_section(cross(d), k, value), "flat")
                self.assertRaises(Empty, section, cross(d), k, (1001, 1000))
                self.assertRaises(Empty, section, cross(d), k, (-1001, 1000))

    def test_random(self):
        source = source_of(127)
        words = set()
        for d in range(2, 5):
            for P in samples(d, 128, 2):
                k = source.randint(1, d)
                heights = sorted(exact(v)[k - 1] for v in P.vertices())
                middle = (heights[0] + heights[-1]) / 2
                for height in (heights[0], heights[-1], middle, heights[-1] + 1, heights[0] - Fraction(1, 7)):
                    words.add(self.assert_section(P, k, pair_of(height)))
        self.assertEqual(words, {"polytope", "empty", "flat"})

    def test_at_a_vertex(self):
        with self.assertRaises(Flat) as caught:
            section(simplex(2), 1, (1, 1))
        self.assertIn(caught.exception.inequality, [(0, 1), (0, -1)])
        with self.assertRaises(Flat) as caught:
            section(simplex(3), 2, (1, 1))
        self.assertEqual(caught.exception.inequality[0], 0)
        self.assertEqual(len(caught.exception.inequality), 3)

    def test_bad_size(self):
        for value in ((0, 1), (1, 1), (7, 1)):
            self.assertRaises(BadSize, section, cube(1), 1, value)


class CornerFigureTest(unittest.TestCase):
    def assert_figure(self, P, index):
        """Check that the faces of the figure are those of P that contain the vertex."""
        Q = corner_figure(P, index)
        d = P.dimension()
        self.assertEqual(Q.dimension(), d - 1)
        # Its points are points of P, of which one coordinate is left out.
        shadows = [shadow(P, k) for k in range(1, d + 1)]
        self.assertTrue(any(all(S.contains(vertex) for vertex in Q.vertices()) for S in shadows))
        containing = [[face for face in row if index in face] for row in faces(P)]
        self.assertEqual(face_numbers(Q), [len(row) for row in containing[2:]])
        # A facet of the figure has as many vertices as the facet of P has edges at the vertex.
        edges = [edge for edge in graph(P) if index in edge]
        sizes = sorted(len([edge for edge in edges if set(edge) <= set(face)]) for face in containing[d])
        self.assertEqual(sorted(len(row) for row in Q.incidence()), sizes)

    def test_by_faces(self):
        for d in range(2, 5):
            for P in samples(d, 129, 2):
                for index in range(min(len(P.vertices()), 5)):
                    self.assert_figure(P, index)

    def test_shapes(self):
        for d in range(2, 5):
            for index in range(2 ** d):
                self.assertIsNotNone(shape_map(corner_figure(cube(d), index), simplex(d - 1)))
            for index in range(2 * d):
                self.assertIsNotNone(shape_map(corner_figure(cross(d), index), cross(d - 1)))
        square_pyramid = pyramid(cube(2))
        tip = square_pyramid.vertices().index((1, 0, 0, 1))
        self.assertIsNotNone(shape_map(corner_figure(square_pyramid, tip), cube(2)))

    def test_shape_stays_under_maps(self):
        source = source_of(130)
        for d in (3, 4):
            P = random_polytope(source, d, d + 3, 5)
            rows = some_map(source, d, 3)
            Q = moved(P, rows)
            self.assertEqual(sorted(tuple(face_numbers(corner_figure(P, k))) for k in range(len(P.vertices()))),
                             sorted(tuple(face_numbers(corner_figure(Q, k))) for k in range(len(Q.vertices()))))

    def test_steep_corners(self):
        # Ends of edges at very different distances, where a plane too far away would miss the near ones.
        P = hull(3, [(1, 0, 0, 0), (9999, 1, 0, 0), (1, 0, 9999, 0), (1, 0, 0, 1), (1, 9999, 9999, 1)])
        for index in range(len(P.vertices())):
            self.assert_figure(P, index)

    def test_wrong_inputs(self):
        for P in (cube(2), simplex(4), shifted(cross(3), (1, 5, 5, 5))):
            many = len(P.vertices())
            for index in (-1, many, many + 1, 10 ** 20, -many):
                self.assertRaises(BadFace, corner_figure, P, index)
        for index in (0, 1, 2, -1):
            self.assertRaises(BadSize, corner_figure, cube(1), index)
