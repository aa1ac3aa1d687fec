"""Volumes of polytopes, and what is weighed by them."""

from hullwright.cells import cell_volume, cells_volume
from hullwright.making import added, multiplied
from hullwright.numbers import over, times, total
from hullwright.points import coordinates, made_point, middle
from hullwright.polynomials import polynomial_through
from hullwright.polytopes import hull
from hullwright.pulling import pulled_cells, pulled_sides


def volume(P):
    """Return the volume of a polytope."""
    return cells_volume(P.dimension(), P.vertices(), pulled_cells(P))


def centroid(P):
    """Return the centre of mass of a polytope."""
    d = P.dimension()
    vertices = P.vertices()
    cells = pulled_cells(P)
    volumes = [cell_volume(d, vertices, cell) for cell in cells]
    middles = [coordinates(middle([vertices[k] for k in cell])) for cell in cells]
    whole = total(volumes)
    sums = [total([times(part, row[k]) for part, row in zip(volumes, middles)]) for k in range(d)]
    return made_point([over(x, whole) for x in sums])


def facet_volumes(P, point):
    """Return the list of the volumes of the hulls of a point of P and each facet."""
    d = P.dimension()
    points = P.vertices() + [point]
    tip = (len(points) - 1,)
    return [cells_volume(d, points, [cell + tip for cell in cells]) for cells in pulled_sides(P)]


def mixed_volumes(P, Q):
    """Return the coefficients of the volume of the sum of multiples of two polytopes."""
    d = P.dimension()
    pairs = {}
    for first in P.vertices():
        for second in Q.vertices():
            pairs[added(first, second)] = (first, second)
    both = hull(d, list(pairs))
    # The faces of a sum are the same for all positive factors, so the same cells serve for all of them, and for 0.
    chosen = [pairs[vertex] for vertex in both.vertices()]
    cells = pulled_cells(both)
    places = list(range(d + 1))
    values = [cells_volume(d, sums_with(chosen, place), cells) for place in places]
    return polynomial_through(places, values)


def sums_with(pairs, factor):
    """Return for each pair of points the sum of the first one and a multiple of the second one."""
    return [added(first, multiplied(second, (factor, 1))) for first, second in pairs]
