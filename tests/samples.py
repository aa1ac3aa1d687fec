"""Polytopes that several tests take, and checks of polytopes by the words of the document."""

import itertools

from hullwright.known import cross, cube, cyclic, simplex
from hullwright.polytopes import hull
from tests.support import (
    corners_by_words, det_by_words, divided, facets_by_words, is_flat_list, product_of, rank_by_words, some_points,
    source_of, tight_everywhere, vertices_by_words)


def random_polytope(source, d, many, most):
    """Return the hull of random points that are not flat."""
    while True:
        points = some_points(source, d, many, most)
        if not is_flat_list(d, points):
            return hull(d, points)


def lattice_polytope(source, d, many, most):
    """Return the hull of random lattice points that are not flat."""
    while True:
        points = [(1,) + tuple(source.randint(-most, most) for _ in range(d)) for _ in range(many)]
        if not is_flat_list(d, points):
            return hull(d, points)


def polytope_around_zero(source, d, many, most):
    """Return a random polytope with the point 0 inside."""
    while True:
        P = random_polytope(source, d, many, most)
        if all(facet[0] > 0 for facet in P.facets()):
            return P


def known_polytopes(d):
    """Return some well known polytopes of a dimension."""
    return [cube(d), cross(d), simplex(d), cyclic(d, d + 2)]


def samples(d, number, many=4):
    """Return known polytopes and random ones, lattice polytopes and others."""
    source = source_of(number)
    found = known_polytopes(d)
    for _ in range(many):
        found.append(random_polytope(source, d, source.randint(d + 1, d + 4), source.choice([2, 5, 20])))
        found.append(lattice_polytope(source, d, source.randint(d + 1, d + 4), source.choice([2, 4])))
    return found


def lists_of(P):
    """Return all that tells a polytope from others."""
    return (P.dimension(), P.vertices(), P.facets(), P.incidence())


def assert_is_hull(test, P, d, points):
    """Assert that a polytope is the hull of points, by the words of the document."""
    test.assertEqual(P.dimension(), d)
    test.assertEqual(P.vertices(), vertices_by_words(d, points))
    test.assertEqual(P.facets(), facets_by_words(d, P.vertices()))


def assert_part(test, d, rows, made, errors):
    """Assert that a call makes the polytope of a bounded system, or raises the right one of two errors."""
    empty, flat = errors
    corners = corners_by_words(d, rows)
    if corners == []:
        test.assertRaises(empty, made)
        return "empty"
    if rank_by_words(corners) <= d:
        with test.assertRaises(flat) as caught:
            made()
        test.assertTrue(tight_everywhere(d, caught.exception.inequality, corners))
        return "flat"
    P = made()
    test.assertEqual(P.dimension(), d)
    test.assertEqual(P.vertices(), corners)
    test.assertEqual(P.facets(), facets_by_words(d, corners))
    return "polytope"


def some_map(source, d, most):
    """Return a random map with a determinant other than 0."""
    while True:
        rows = [(source.randint(1, 3),) + tuple(source.randint(-most, most) for _ in range(d))]
        rows += [(0,) + tuple(source.randint(-most, most) for _ in range(d)) for _ in range(d)]
        if rank_by_words(rows) == d + 1:
            return rows


def image_by_words(rows, point):
    """Return the image of a point under a map."""
    total = [point[0] * entry for entry in rows[0]]
    for factor, row in zip(point[1:], rows[1:]):
        total = [a + factor * b for a, b in zip(total, row)]
    return divided(total)


def closed_sets(P):
    """Return the set of all faces, as closed sets of vertices."""
    vertices = P.vertices()
    rows = [frozenset(k for k, vertex in enumerate(vertices) if product_of(facet, vertex) == 0)
            for facet in P.facets()]
    found = {frozenset(range(len(vertices)))}
    while True:
        more = {face & row for face in found for row in rows} - found
        if not more:
            return found
        found |= more


def shape_map_by_words(first, second, value):
    """Tell whether a value is a map that makes faces faces."""
    many = len(first.vertices())
    if not isinstance(value, tuple) or not all(type(k) is int for k in value):
        return False
    if len(value) != many or sorted(value) != list(range(len(second.vertices()))):
        return False
    return {frozenset(value[k] for k in face) for face in closed_sets(first)} == closed_sets(second)


def edges_by_words(P):
    """Return the set of the pairs of vertices that lie in a row of facets which leaves room for nothing else."""
    d, vertices = P.dimension(), P.vertices()
    found = set()
    for first, second in itertools.combinations(range(len(vertices)), 2):
        around = [row for row in P.facets()
                  if product_of(row, vertices[first]) == 0 and product_of(row, vertices[second]) == 0]
        if rank_by_words(around) == d - 1:
            found.add((first, second))
    return found


def all_faces_by_words(P):
    """Return the list of all faces: the vertices at which some facets are tight, for each choice of facets."""
    return [tuple(sorted(face)) for face in closed_sets(P)]


def some_unimodular_map(source, d):
    """Return a random map that leads lattice points to lattice points, and all of them from some."""
    while True:
        rows = [(1,) + tuple(source.randint(-5, 5) for _ in range(d))]
        rows += [(0,) + tuple(source.randint(-2, 2) for _ in range(d)) for _ in range(d)]
        if abs(det_by_words(rows)) == 1:
            return rows
