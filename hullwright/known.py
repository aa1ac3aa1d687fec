"""Some well known polytopes."""

from hullwright.errors import BadSize
from hullwright.polytopes import hull

MOST_CYCLIC = 12


def cube(d):
    """Return the polytope whose vertices have coordinates 1 or -1."""
    points = [(1,)]
    for _ in range(d):
        points = [point + (entry,) for point in points for entry in (-1, 1)]
    return hull(d, points)


def cross(d):
    """Return the polytope whose vertices have one coordinate 1 or -1 and 0 otherwise."""
    return hull(d, [axis_point(d, k, entry) for k in range(d) for entry in (-1, 1)])


def simplex(d):
    """Return the polytope of the point 0 and the points with one coordinate 1 and 0 otherwise."""
    return hull(d, [(1,) + (0,) * d] + [axis_point(d, k, 1) for k in range(d)])


def axis_point(d, at, entry):
    """Return the point with an entry as one coordinate and 0 otherwise."""
    return (1,) + (0,) * at + (entry,) + (0,) * (d - at - 1)


def cyclic(d, n):
    """Return the hull of n points with the coordinates t, t * t, .., up to the power of d."""
    if n < d + 1 or n > MOST_CYCLIC:
        raise BadSize("the number of the points is out of its range")
    return hull(d, [powers(d, t) for t in range(n)])


def powers(d, t):
    """Return the point with the powers of t from 1 to d as coordinates."""
    found = [1]
    for _ in range(d):
        found.append(found[-1] * t)
    return tuple(found)
