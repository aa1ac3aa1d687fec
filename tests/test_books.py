"""Points 11.1 and 11.2: texts of polytopes and reports."""

import unittest
from fractions import Fraction

from hullwright.books import read_polytope, report, write_polytope
from hullwright.ehrhart import ehrhart
from hullwright.errors import BadText
from hullwright.faces import face_numbers
from hullwright.known import cross, cube, simplex
from hullwright.lattice import count
from hullwright.making import scaled, shifted
from hullwright.polytopes import Polytope, hull, same
from hullwright.volumes import centroid, volume
from tests.samples import lists_of, random_polytope, samples
from tests.support import source_of

SEGMENT = "polytope 1\nvertex 0\nvertex 1/2\nfacet 0 1\nfacet 1 -2\n"
TRIANGLE = "polytope 2\nvertex 0 0\nvertex 0 1\nvertex 1 0\nfacet 0 0 1\nfacet 0 1 0\nfacet 1 -1 -1\n"


def text_of(a, b):
    """Return the text of a fraction."""
    return str(Fraction(a, b))


def text_by_words(P):
    """Return the text of a polytope with small integers."""
    lines = [f"polytope {P.dimension()}"]
    for vertex in P.vertices():
        lines.append("vertex " + " ".join(text_of(entry, vertex[0]) for entry in vertex[1:]))
    for facet in P.facets():
        lines.append("facet " + " ".join(str(entry) for entry in facet))
    return "\n".join(lines) + "\n"


class TextTest(unittest.TestCase):
    def test_known(self):
        self.assertEqual(write_polytope(simplex(2)), TRIANGLE)
        self.assertEqual(write_polytope(hull(1, [(2, 1), (1, 0)])), SEGMENT)
        self.assertEqual(write_polytope(hull(1, [(1, -7), (3, -2)])),
                         "polytope 1\nvertex -7\nvertex -2/3\nfacet -2 -3\nfacet 7 1\n")

    def test_samples(self):
        for d in range(1, 5):
            for P in samples(d, 211):
                text = write_polytope(P)
                self.assertEqual(text, text_by_words(P))
                Q = read_polytope(text)
                self.assertIsInstance(Q, Polytope)
                self.assertEqual(lists_of(Q), lists_of(P))

    def test_sixty_digits(self):
        most = "9" * 60
        text = f"polytope 1\nvertex -{most}\nvertex {most}\nfacet {most} -1\nfacet {most} 1\n"
        P = hull(1, [(1, -(10 ** 60 - 1)), (1, 10 ** 60 - 1)])
        self.assertEqual(write_polytope(P), text)
        self.assertTrue(same(read_polytope(text), P))
        more = "1" + "0" * 60
        for P in (hull(1, [(1, -(10 ** 60)), (1, 0)]), hull(1, [(10 ** 60, 1), (1, 3)])):
            self.assertRaises(BadText, read_polytope, write_polytope(P))
        self.assertRaises(BadText, read_polytope, f"polytope 1\nvertex 0\nvertex {more}\nfacet 0 1\nfacet {more} -1\n")

    def test_facets_with_sixty_one_digits(self):
        # All coordinates are short, but not the facet through them.
        big = 10 ** 31
        P = hull(2, [(1, 0, 0), (1, big, 1), (1, 3, big + 1)])
        self.assertTrue(any(abs(entry) >= 10 ** 60 for facet in P.facets() for entry in facet))
        self.assertRaises(BadText, read_polytope, write_polytope(P))

    def test_wrong_texts(self):
        lines = TRIANGLE.split("\n")[:-1]
        wrong = ["", "\n", "polytope 2", "polytope 2\n", "polytope 1\n", TRIANGLE[:-1], TRIANGLE + "\n", TRIANGLE + "x",
                 TRIANGLE + " ", " " + TRIANGLE, "\n" + TRIANGLE, TRIANGLE + "facet 1 -1 -1\n", TRIANGLE + TRIANGLE,
                 TRIANGLE.replace("\n", "\r\n"), TRIANGLE.replace("\n", "\n\n"), TRIANGLE.upper()]
        wrong += [TRIANGLE.replace("polytope 2", head) for head in
                  ("polytope 1", "polytope 3", "polytope 0", "polytope 5", "polytope 02", "polytope +2", "polytope  2",
                   "polytope 2 ", "polytope", "polytope two", "polytope -2", "cube 2", "dimension 2")]
        for k in range(len(lines)):
            wrong.append("\n".join(lines[:k] + lines[k + 1:]) + "\n")                    # a line is missing
            wrong.append("\n".join(lines[:k] + [lines[k]] + lines[k:]) + "\n")           # a line stands twice
            for i in range(k):
                other = list(lines)
                other[i], other[k] = other[k], other[i]
                wrong.append("\n".join(other) + "\n")                                    # two lines in another order
            for piece in (" 0", " ", " x", "/1", ".0"):
                wrong.append("\n".join(lines[:k] + [lines[k] + piece] + lines[k + 1:]) + "\n")
        for old, new in (("0 1\nv", "0 2\nv"), ("vertex 1 0", "vertex 2/2 0"), ("vertex 1 0", "vertex 1 00"),
                         ("vertex 1 0", "vertex 1 -0"), ("vertex 1 0", "vertex  1 0"), ("vertex 1 0", "vertex 1/1 0"),
                         ("facet 1 -1 -1", "facet 2 -2 -2"), ("facet 1 -1 -1", "facet 1 -1 -2"),
                         ("facet 1 -1 -1", "facet -1 1 1"), ("vertex 0 0", "vertex 1 1"), ("vertex", "point"),
                         ("facet", "side"), ("vertex 0 1", "vertex 0 +1"), ("vertex 0 1", "vertex\t0 1")):
            wrong.append(TRIANGLE.replace(old, new))
        for text in wrong:
            self.assertNotEqual(text, TRIANGLE)
            self.assertRaises(BadText, read_polytope, text)

    def test_points_that_are_no_vertices_and_flat_ones(self):
        wrong = [
            "polytope 1\nvertex 0\nvertex 1\nvertex 2\nfacet 0 1\nfacet 2 -1\n",
            "polytope 1\nvertex 0\nvertex 2\nvertex 1\nfacet 0 1\nfacet 2 -1\n",
            "polytope 1\nvertex 0\nvertex 2\nfacet 0 1\nfacet 2 -1\nfacet 3 -1\n",
            "polytope 1\nvertex 0\nvertex 2\nfacet 0 1\nfacet 3 -1\n",
            "polytope 1\nvertex 0\n", "polytope 1\nvertex 0\nfacet 0 -1\nfacet 0 1\n", "polytope 1\nfacet 0 1\nfacet 2 -1\n",
            "polytope 2\nvertex 0 0\nvertex 1 1\nvertex 2 2\nfacet 0 1 0\n",
        ]
        for text in wrong:
            self.assertRaises(BadText, read_polytope, text)

    def test_long_texts(self):
        for text in ("polytope 1\nvertex " + "9" * 10 ** 5 + "\n", "9" * 10 ** 5, "polytope 1\n" + "\n" * 10 ** 5,
                     "polytope 1\nvertex 0\nvertex 1\nfacet 0 " + "1" * 10 ** 5 + "\n"):
            self.assertRaises(BadText, read_polytope, text)


class ReportTest(unittest.TestCase):
    def test_known(self):
        self.assertEqual(report(cube(2)), "dimension 2\nfaces 4 4 1\nvolume 4\ncentroid 0 0\nlattice 9\nehrhart 1 4 4\n")
        self.assertEqual(report(simplex(3)), "dimension 3\nfaces 4 6 4 1\nvolume 1/6\ncentroid 1/4 1/4 1/4\nlattice 4\n"
                                             "ehrhart 1 11/6 1 1/6\n")
        self.assertEqual(report(scaled(cube(1), (1, 2))),
                         "dimension 1\nfaces 2 1\nvolume 1\ncentroid 0\nlattice 1\n")
        self.assertEqual(report(shifted(scaled(cross(2), (1, 3)), (2, 1, 1))),
                         "dimension 2\nfaces 4 4 1\nvolume 2/9\ncentroid 1/2 1/2\nlattice 0\n")

    def test_samples(self):
        for d in range(1, 5):
            for P in samples(d, 212, 2):
                centre = centroid(P)
                lines = [f"dimension {d}", "faces " + " ".join(str(n) for n in face_numbers(P)),
                         "volume " + text_of(*volume(P)), None, f"lattice {count(P)}"]
                lines[3] = "centroid " + " ".join(text_of(x, centre[0]) for x in centre[1:])
                if all(vertex[0] == 1 for vertex in P.vertices()):
                    lines.append("ehrhart " + " ".join(text_of(*c) for c in ehrhart(P)))
                self.assertEqual(report(P), "".join(line + "\n" for line in lines))

    def test_four_digits(self):
        source = source_of(213)
        P = random_polytope(source, 2, 8, 9999)
        self.assertEqual(report(P).split("\n")[2], "volume " + text_of(*volume(P)))
