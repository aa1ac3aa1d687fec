"""Polytopes, made from points or from inequalities."""

from hullwright.errors import Empty, Flat, Unbounded
from hullwright.rays import extreme_rays
from hullwright.systems import case_paper, satisfies
from hullwright.vectors import dot, rank, relation, transposed


class Polytope:
    """A polytope, given by both of its descriptions, which never change."""

    def __init__(self, d, vertices, facets):
        self._dimension = d
        self._vertices = tuple(vertices)
        self._facets = tuple(facets)
        self._incidence = tuple([zeros_of(facet, vertices) for facet in facets])

    def dimension(self):
        """Return the dimension d."""
        return self._dimension

    def vertices(self):
        """Return the ascending list of the vertices."""
        return list(self._vertices)

    def facets(self):
        """Return the ascending list of the facets."""
        return list(self._facets)

    def incidence(self):
        """Return for each facet the tuple of the indexes of the vertices at which it is tight."""
        return list(self._incidence)

    def contains(self, point):
        """Tell whether a point is in the polytope."""
        return satisfies(self._facets, point)

    def is_inside(self, point):
        """Tell whether all facets are strict at a point."""
        return all([dot(facet, point) > 0 for facet in self._facets])


def zeros_of(facet, vertices):
    """Return the ascending tuple of the indexes of the vertices at which a facet is tight."""
    return tuple([k for k, vertex in enumerate(vertices) if dot(facet, vertex) == 0])


def same(first, second):
    """Tell whether two polytopes have the same dimension and the same vertices."""
    return first.dimension() == second.dimension() and first.vertices() == second.vertices()


def hull(d, points):
    """Return the polytope that is the hull of a list of points."""
    different = sorted(set(points))
    check_not_flat(different)
    facets = extreme_rays(different)
    return Polytope(d, with_full_meeting(d, different, facets), facets)


def check_not_flat(points):
    """Raise Flat if all points of a list lie in a common plane."""
    plane = relation(transposed(points))
    if plane is not None:
        raise Flat(plane)


def common_part(d, rows):
    """Return the polytope of the points that satisfy a system."""
    paper = case_paper(d, rows)
    if paper[0] == "empty":
        raise Empty("no point satisfies the system")
    if paper[0] == "unbounded":
        raise Unbounded("the points that satisfy the system are not bounded")
    if paper[0] == "flat":
        raise Flat(first_loaded(rows, paper[2]))
    different = sorted(set(rows))
    vertices = extreme_rays(different)
    return Polytope(d, vertices, with_full_meeting(d, different, vertices))


def first_loaded(rows, weights):
    """Return the first row whose weight is not 0."""
    # Rows that add up to zeros with positive weights are tight wherever all of them hold.
    return [row for row, weight in zip(rows, weights) if weight > 0][0]


def with_full_meeting(d, vectors, others):
    """Return those vectors that have the product 0 with others of the rank d.

    Among points and the facets around them these are the vertices, among
    inequalities and the vertices that satisfy them these are the facets.
    """
    found = []
    for vector in vectors:
        meeting = [other for other in others if dot(vector, other) == 0]
        if len(meeting) >= d and rank(meeting) == d:
            found.append(vector)
    return found
