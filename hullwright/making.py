"""New polytopes from given ones, all of the same dimension."""

from hullwright.errors import BadMap, BadNumber, NotInside
from hullwright.points import combined
from hullwright.polytopes import Polytope, common_part, hull
from hullwright.vectors import determinant, inverted, primitive


def polar(P):
    """Return the polytope of the points y with 1 + y1 * x1 + .. + yd * xd >= 0 for all points x of P."""
    facets = P.facets()
    if not all([facet[0] > 0 for facet in facets]):
        raise NotInside("the point 0 is not inside of the polytope")
    # The tuples stay as they are: a facet read as a point is a vertex, and a vertex read as an inequality a facet.
    return Polytope(P.dimension(), facets, P.vertices())


def moved(P, rows):
    """Return the image of a polytope under a map, given by its rows."""
    check_map(rows)
    return hull(P.dimension(), [primitive(combined(vertex, rows)) for vertex in P.vertices()])


def inverse_map(rows):
    """Return any map that leads back from the images under a map."""
    check_map(rows)
    return inverted(rows)[0]


def check_map(rows):
    """Raise BadMap if the rows of a map have the determinant 0."""
    if determinant(rows) == 0:
        raise BadMap("the determinant of the rows is 0")


def half(P, inequality):
    """Return the polytope of the points of P at which an inequality holds."""
    return common_part(P.dimension(), P.facets() + [inequality])


def meeting(P, Q):
    """Return the polytope of the points that are in both polytopes."""
    return common_part(P.dimension(), P.facets() + Q.facets())


def united(P, Q):
    """Return the hull of two polytopes."""
    return hull(P.dimension(), P.vertices() + Q.vertices())


def summed(P, Q):
    """Return the polytope of all sums of a point of P and a point of Q."""
    return hull(P.dimension(), [added(first, second) for first in P.vertices() for second in Q.vertices()])


def added(first, second):
    """Return the sum of two points, coordinate by coordinate."""
    rest = [second[0] * a + first[0] * b for a, b in zip(first[1:], second[1:])]
    return primitive([first[0] * second[0]] + rest)


def scaled(P, factor):
    """Return the polytope of all points of P times a fraction other than 0."""
    if factor[0] == 0:
        raise BadNumber("the factor is 0")
    return hull(P.dimension(), [multiplied(vertex, factor) for vertex in P.vertices()])


def multiplied(point, factor):
    """Return a point times a fraction, coordinate by coordinate."""
    return primitive([factor[1] * point[0]] + [factor[0] * entry for entry in point[1:]])


def shifted(P, point):
    """Return the polytope of all sums of a point of P and a given point."""
    return hull(P.dimension(), [added(vertex, point) for vertex in P.vertices()])
