"""Part 13: symmetries, affine maps, equivalent lattice polytopes and orbits."""

import itertools
import unittest

from hullwright.errors import NotLattice
from hullwright.known import cross, cube, cyclic, simplex
from hullwright.making import moved, scaled
from hullwright.polytopes import hull, same
from hullwright.symmetries import (
    affine_map, affine_symmetries, is_affine_map, lattice_map, orbits, symmetries)
from hullwright.volumes import volume
from tests.samples import (
    all_faces_by_words, image_by_words, lattice_polytope, random_polytope, samples, shape_map_by_words, some_map,
    some_unimodular_map)
from tests.support import (
    ODD_VALUES, det_by_words, exact, rank_by_words, reduced_form, source_of, variants, whole_row)

# A quadrilateral, most symmetries of which do not come from affine maps.
KITE = hull(2, [(1, 0, 0), (1, 3, 1), (1, 1, 5), (1, 7, 9)])

# Only the map that moves nothing makes its faces its faces.
UNEVEN = hull(3, [(1, 0, 1, 1), (1, 0, 2, 0), (1, 0, 2, 1), (1, 1, 0, 2), (1, 1, 1, 2), (1, 1, 2, 0), (1, 2, 2, 2)])


def keeps_facets(P, value):
    """Tell whether a map of the vertices makes the facets the facets."""
    rows = {frozenset(row) for row in P.incidence()}
    return {frozenset(value[k] for k in row) for row in rows} == rows


def linear_by_words(first, second, images):
    """Tell whether vertices lead to their images by an affine map: it adds no rank to put the images beside them."""
    rows = [(1,) + exact(vertex) for vertex in first.vertices()]
    others = [(1,) + exact(second.vertices()[k]) for k in images]
    both = [row + other for row, other in zip(rows, others)]
    return len(reduced_form(both)) == len(rows[0])


def affine_images_by_words(first, second):
    """Return the ascending list of the rows of images that come from affine maps."""
    many = len(first.vertices())
    if many != len(second.vertices()):
        return []
    return [images for images in itertools.permutations(range(many)) if linear_by_words(first, second, images)]


def map_form(d, value):
    """Tell whether a value has the form of a map."""
    if not isinstance(value, list) or len(value) != d + 1 or not all(whole_row(d + 1, row) for row in value):
        return False
    return value[0][0] >= 1 and all(row[0] == 0 for row in value[1:]) and rank_by_words(value) == d + 1


def affine_by_words(first, second, value):
    """Tell whether a value is an affine map from one polytope to another one."""
    if not map_form(first.dimension(), value) or second.dimension() != first.dimension():
        return False
    return sorted(image_by_words(value, vertex) for vertex in first.vertices()) == second.vertices()


def lattice_by_words(first, second, value):
    """Tell whether a value is an affine map that shows that two lattice polytopes are equivalent."""
    return affine_by_words(first, second, value) and value[0][0] == 1 and abs(det_by_words(value)) == 1


class SymmetriesTest(unittest.TestCase):
    def test_small_ones(self):
        for d in range(1, 5):
            for P in samples(d, 311):
                if len(P.vertices()) <= 7:
                    rows = itertools.permutations(range(len(P.vertices())))
                    right = [value for value in rows if keeps_facets(P, value)]
                    self.assertEqual(symmetries(P), right)
                    self.assertTrue(all(shape_map_by_words(P, P, value) for value in right[:3]))

    def test_numbers(self):
        for d, many in ((1, 2), (2, 8), (3, 48), (4, 384)):
            for P in (cube(d), cross(d)):
                found = symmetries(P)
                self.assertEqual(len(found), many)
                self.assertEqual(found, sorted(set(found)))
                self.assertEqual(affine_symmetries(P), found)
        for d, many in ((1, 2), (2, 6), (3, 24), (4, 120)):
            everything = list(itertools.permutations(range(d + 1)))
            self.assertEqual(len(everything), many)
            self.assertEqual(symmetries(simplex(d)), everything)
            self.assertEqual(affine_symmetries(simplex(d)), everything)
        self.assertEqual(len(symmetries(cyclic(2, 12))), 24)
        self.assertEqual(len(symmetries(cyclic(4, 8))), 16)

    def test_none_but_the_one_that_moves_nothing(self):
        nothing = tuple(range(7))
        right = [value for value in itertools.permutations(range(7)) if keeps_facets(UNEVEN, value)]
        self.assertEqual(right, [nothing])
        self.assertEqual(symmetries(UNEVEN), [nothing])
        self.assertEqual(affine_symmetries(UNEVEN), [nothing])
        for row in orbits(UNEVEN):
            self.assertTrue(all(len(orbit) == 1 for orbit in row))

    def test_symmetries_that_are_not_affine(self):
        self.assertEqual(len(symmetries(KITE)), 8)
        self.assertEqual(affine_symmetries(KITE), affine_images_by_words(KITE, KITE))
        self.assertLess(len(affine_symmetries(KITE)), 8)

    def test_affine_symmetries(self):
        for d in range(1, 5):
            for P in samples(d, 312, 2):
                if len(P.vertices()) <= 6:
                    self.assertEqual(affine_symmetries(P), affine_images_by_words(P, P))
        # The symmetries of a polytope are those of its images.
        source = source_of(313)
        for d in range(1, 5):
            for P in (cube(d), cross(d), simplex(d)):
                Q = moved(P, some_map(source, d, 4))
                self.assertEqual(len(affine_symmetries(Q)), len(affine_symmetries(P)))


class AffineMapTest(unittest.TestCase):
    def assert_map(self, first, second):
        rows = affine_map(first, second)
        self.assertTrue(affine_by_words(first, second, rows), rows)
        self.assertIs(is_affine_map(first, second, rows), True)
        self.assertTrue(same(moved(first, rows), second))

    def test_images(self):
        source = source_of(314)
        for d in range(1, 5):
            for P in samples(d, 315):
                rows = some_map(source, d, 4)
                Q = moved(P, rows)
                self.assertIs(is_affine_map(P, Q, rows), True)
                self.assert_map(P, Q)
                self.assert_map(Q, P)
                self.assert_map(P, P)

    def test_none(self):
        for first, second in ((cube(2), KITE), (KITE, cube(2)), (cube(3), cross(3)), (cube(2), simplex(2)),
                              (cube(2), cyclic(2, 4)), (cyclic(2, 5), cyclic(2, 6)), (cube(2), simplex(3)),
                              (simplex(3), cube(2)), (cube(3), cyclic(2, 8))):
            self.assertIsNone(affine_map(first, second))
        # Of one shape, with the same volume: two trapezoids.
        first = hull(2, [(1, 0, 0), (1, 4, 0), (1, 0, 1), (1, 2, 1)])
        second = hull(2, [(1, 0, 0), (1, 5, 0), (1, 0, 1), (1, 1, 1)])
        self.assertEqual(volume(first), volume(second))
        self.assertIsNone(affine_map(first, second))
        self.assertIsNone(lattice_map(first, second))

    def test_random_pairs(self):
        source = source_of(316)
        found = set()
        for _ in range(60):
            d = source.choice([1, 2, 2, 3])
            first = lattice_polytope(source, d, d + 2, 1)
            second = lattice_polytope(source, d, d + 2, 1)
            right = affine_images_by_words(first, second)
            self.assertEqual(affine_map(first, second) is None, right == [])
            if right != []:
                self.assert_map(first, second)
            found.add((d, right == []))
        self.assertEqual(found, {(1, False), (2, True), (2, False), (3, True), (3, False)})

    def test_check_tells_the_truth(self):
        source = source_of(317)
        for d in range(1, 5):
            P = lattice_polytope(source, d, d + 2, 2)
            rows = some_map(source, d, 2)
            Q = moved(P, rows)
            doubled = [tuple(2 * entry for entry in row) for row in rows]
            self.assertIs(is_affine_map(P, Q, doubled), True)
            self.assertIs(is_affine_map(P, Q, [tuple(-entry for entry in row) for row in rows]), False)
            self.assertIs(is_affine_map(P, Q, tuple(rows)), False)
            self.assertIs(is_affine_map(P, Q, [list(row) for row in rows]), False)
            self.assertIs(is_affine_map(P, Q, rows[:-1]), False)
            self.assertIs(is_affine_map(P, Q, rows + [rows[-1]]), False)
            self.assertIs(is_affine_map(P, Q, [rows[0]] + [(0,) * (d + 1)] * d), False)
            self.assertIs(is_affine_map(P, Q, [rows[0], (1,) + rows[1][1:]] + rows[2:]), False)
            self.assertIs(is_affine_map(P, Q, [(0,) + rows[0][1:]] + rows[1:]), False)
            for k, row in enumerate(rows):
                for changed in variants(row):
                    value = rows[:k] + [changed] + rows[k + 1:]
                    self.assertIs(is_affine_map(P, Q, value), affine_by_words(P, Q, value), value)

    def test_values_of_any_kind(self):
        P = cube(2)
        for value in ODD_VALUES + [[], [[]], [()], [(1, 0, 0)], [None] * 3, [(1, 0, 0), (0, True, 0), (0, 0, 1)],
                                   [(1.0, 0, 0), (0, 1, 0), (0, 0, 1)], ((1, 0, 0), (0, 1, 0), (0, 0, 1)),
                                   [(-1, 0, 0), (0, 1, 0), (0, 0, 1)], [(1, 0, 0), (0, 0, 0), (0, 0, 0)],
                                   [(1, 0, 0), (0, 1, 1), (0, 1, 1)], [(1, 0), (0, 1)]]:
            self.assertIs(is_affine_map(P, P, value), False)
        # It makes the vertices the vertices, but it does not keep middles.
        segment = hull(1, [(1, 0), (1, 1)])
        self.assertIs(is_affine_map(segment, segment, [(1, 0), (1, 2)]), False)
        self.assertIs(is_affine_map(segment, segment, [(1, 1), (0, -1)]), True)
        self.assertIs(is_affine_map(P, P, [(1, 0, 0), (0, 1, 0), (0, 0, 1)]), True)
        self.assertIs(is_affine_map(P, P, [(7, 0, 0), (0, 0, -7), (0, 7, 0)]), True)


class LatticeMapTest(unittest.TestCase):
    def test_equivalent_ones(self):
        source = source_of(318)
        for d in range(1, 5):
            for P in [cube(d), cross(d), simplex(d), cyclic(d, d + 2)] + [
                    lattice_polytope(source, d, source.randint(d + 1, d + 3), 4) for _ in range(6)]:
                rows = some_unimodular_map(source, d)
                Q = hull(d, [image_by_words(rows, vertex) for vertex in P.vertices()])
                for first, second in ((P, Q), (Q, P), (P, P)):
                    self.assertTrue(lattice_by_words(first, second, lattice_map(first, second)))

    def test_others_with_the_same_volume(self):
        pairs = [
            (hull(1, [(1, 0), (1, 3)]), hull(1, [(1, 5), (1, 9)])),
            # Triangles of the same area: one has lattice points on two sides, one on one side.
            (hull(2, [(1, 0, 0), (1, 4, 0), (1, 0, 1)]), hull(2, [(1, 0, 0), (1, 2, 0), (1, 0, 2)])),
            (scaled(cross(2), (2, 1)), hull(2, [(1, 0, 0), (1, 8, 0), (1, 0, 1), (1, 8, 1)])),
            # Empty tetrahedra.
            (hull(3, [(1, 0, 0, 0), (1, 1, 0, 0), (1, 0, 1, 0), (1, 1, 1, 5)]),
             hull(3, [(1, 0, 0, 0), (1, 1, 0, 0), (1, 0, 1, 0), (1, 1, 2, 5)])),
            (hull(4, [(1, 0, 0, 0, 0), (1, 1, 0, 0, 0), (1, 0, 1, 0, 0), (1, 0, 0, 1, 0), (1, 0, 0, 0, 4)]),
             hull(4, [(1, 0, 0, 0, 0), (1, 2, 0, 0, 0), (1, 0, 2, 0, 0), (1, 0, 0, 1, 0), (1, 0, 0, 0, 1)])),
        ]
        for first, second in pairs:
            self.assertIsNone(lattice_map(first, second))
            self.assertIsNone(lattice_map(second, first))
            self.assertIsNotNone(lattice_map(first, first))

    def test_by_all_maps(self):
        source = source_of(319)
        found = set()
        for _ in range(80):
            d = source.choice([1, 2, 2, 3])
            first = lattice_polytope(source, d, d + 1, max(1, 3 - d))
            second = lattice_polytope(source, d, d + 1, max(1, 3 - d))
            right = any(unimodular_by_words(first, second, images)
                        for images in affine_images_by_words(first, second))
            value = lattice_map(first, second)
            self.assertEqual(value is not None, right)
            if right:
                self.assertTrue(lattice_by_words(first, second, value))
            found.add((d, right))
        self.assertEqual(found, {(1, False), (1, True), (2, False), (2, True), (3, False), (3, True)})

    def test_not_lattice(self):
        other = hull(2, [(2, 1, 0), (1, 0, 1), (1, 1, 1)])
        for first, second in ((other, cube(2)), (cube(2), other), (other, other), (simplex(2), other)):
            self.assertRaises(NotLattice, lattice_map, first, second)


def unimodular_by_words(first, second, images):
    """Tell whether the affine map with some images of the vertices keeps the lattice."""
    d = first.dimension()
    starts = [vertex for vertex in first.vertices()]
    ends = [second.vertices()[k] for k in images]
    both = [start + end for start, end in zip(starts, ends)]
    rows = [row[d + 1:] for row in reduced_form(both)]
    if any(entry.denominator != 1 for row in rows for entry in row):
        return False
    return abs(det_by_words([[int(entry) for entry in row] for row in rows])) == 1


class OrbitsTest(unittest.TestCase):
    def test_random(self):
        for d in range(1, 5):
            for P in samples(d, 320):
                if len(P.vertices()) > 7:
                    continue
                rows = [value for value in itertools.permutations(range(len(P.vertices()))) if keeps_facets(P, value)]
                right = [set() for _ in range(d + 2)]
                for face in all_faces_by_words(P):
                    orbit = {tuple(sorted(value[k] for k in face)) for value in rows}
                    dimension = rank_by_words([P.vertices()[k] for k in face]) - 1
                    right[dimension + 1].add(tuple(sorted(orbit)))
                self.assertEqual(orbits(P), [sorted(row) for row in right])

    def test_known(self):
        self.assertEqual(orbits(simplex(1)), [[((),)], [((0,), (1,))], [((0, 1),)]])
        self.assertEqual(orbits(cube(2)), [[((),)], [((0,), (1,), (2,), (3,))],
                                           [((0, 1), (0, 2), (1, 3), (2, 3))], [((0, 1, 2, 3),)]])
        for d in range(1, 5):
            for P in (cube(d), cross(d), simplex(d)):
                self.assertEqual([len(row) for row in orbits(P)], [1] * (d + 2))
        # A pyramid over a square: the tip, and the others.
        P = hull(3, [(1, 0, 0, 0), (1, 0, 1, 0), (1, 1, 0, 0), (1, 1, 1, 0), (1, 0, 0, 1)])
        self.assertEqual([len(row) for row in orbits(P)], [1, 2, 2, 2, 1])
