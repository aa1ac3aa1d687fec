"""Lattice points of polytopes."""

from hullwright.errors import Empty
from hullwright.making import inverse_map, moved
from hullwright.narrowing import narrowing_map
from hullwright.numbers import greatest_of, least_of, minus
from hullwright.points import combined, value_at
from hullwright.polytopes import hull
from hullwright.vectors import dot, primitive

# An inequality of integers holds at a lattice point if its value is at least 0, and is strict if it is at least 1.
HOLDS = 0
STRICT = 1


def lattice_points(P):
    """Return the ascending list of the lattice points in a polytope."""
    return found_points(P, HOLDS)


def inner_lattice_points(P):
    """Return the ascending list of the lattice points inside of a polytope."""
    return found_points(P, STRICT)


def count(P):
    """Return the number of the lattice points in a polytope."""
    return found_number(P, HOLDS)


def inner_count(P):
    """Return the number of the lattice points inside of a polytope."""
    return found_number(P, STRICT)


def found_points(P, least):
    """Return the ascending list of the lattice points at which the facets have at least a value."""
    rows = narrowing_map(P)
    starts = [(1,)]
    for level in levels_of(moved(P, rows)):
        starts = longer_starts(level, starts, least)
    return moved_back(starts, rows)


def found_number(P, least):
    """Return the number of the lattice points at which the facets have at least a value."""
    return counted(levels_of(moved(P, narrowing_map(P))), (1,), least)


def moved_back(points, rows):
    """Return the ascending list of the points whose images under a map are given."""
    back = inverse_map(rows)
    return sorted([combined(point, back) for point in points])


def levels_of(P):
    """Return for each coordinate the rows that bound it below, and those above, if the ones before it are known.

    They are facets of the shadow of the polytope in which this coordinate is
    the last one. So each start of a lattice point is that of some point.
    """
    levels = []
    for k in range(1, P.dimension() + 1):
        facets = hull(k, [primitive(vertex[:k + 1]) for vertex in P.vertices()]).facets()
        below = [(facet[:k], facet[k]) for facet in facets if facet[k] > 0]
        above = [(facet[:k], -facet[k]) for facet in facets if facet[k] < 0]
        levels.append((below, above))
    return levels


def bounds(level, start, least):
    """Return the least and the greatest integer that can follow on the first entries of a lattice point."""
    below, above = level
    low = max([-((dot(row, start) - least) // factor) for row, factor in below])
    high = min([(dot(row, start) - least) // factor for row, factor in above])
    return (low, high)


def longer_starts(level, starts, least):
    """Return all first entries of lattice points, one more than before."""
    longer = []
    for start in starts:
        low, high = bounds(level, start, least)
        longer.extend([start + (entry,) for entry in range(low, high + 1)])
    return longer


def counted(levels, start, least):
    """Return the number of the lattice points with given first entries."""
    low, high = bounds(levels[len(start) - 1], start, least)
    if len(start) == len(levels):
        return max(0, high - low + 1)
    return sum([counted(levels, start + (entry,), least) for entry in range(low, high + 1)])


def number_up_to(P, most):
    """Return the number of the lattice points in a polytope, or some number from most on, if it is so great."""
    return counted_up_to(levels_of(moved(P, narrowing_map(P))), (1,), most)


def counted_up_to(levels, start, most):
    """Return the number of the lattice points with given first entries, or some number from most on."""
    low, high = bounds(levels[len(start) - 1], start, HOLDS)
    if len(start) == len(levels):
        return max(0, high - low + 1)
    # The search ends as soon as there are enough of them, which may be long before its end.
    many = 0
    for entry in range(low, high + 1):
        many += counted_up_to(levels, start + (entry,), most - many)
        if many >= most:
            return many
    return many


def lattice_hull(P):
    """Return the hull of the lattice points of a polytope."""
    ends = row_ends(P)
    if ends == []:
        raise Empty("the polytope has no lattice points")
    return hull(P.dimension(), ends)


def row_ends(P):
    """Return the first and the last lattice point of each row along one direction."""
    # Their hull is that of all lattice points, and they are far fewer.
    rows = narrowing_map(P)
    levels = levels_of(moved(P, rows))
    starts = [(1,)]
    for level in levels[:-1]:
        starts = longer_starts(level, starts, HOLDS)
    ends = []
    for start in starts:
        low, high = bounds(levels[-1], start, HOLDS)
        if low <= high:
            ends.extend([start + (low,), start + (high,)])
    return moved_back(ends, rows)


def lattice_width(P, direction):
    """Return the difference between the greatest and the least value of a form on a polytope."""
    values = [value_at((0,) + direction, vertex) for vertex in P.vertices()]
    return minus(greatest_of(values), least_of(values))
