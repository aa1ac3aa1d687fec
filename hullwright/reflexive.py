"""Lattice polytopes: reflexive ones, their boundaries, cells of lattice points, and the least width."""

from math import isqrt

from hullwright.ehrhart import check_lattice, is_lattice_polytope
from hullwright.faces import facets_of
from hullwright.lattice import lattice_points, lattice_width, number_up_to
from hullwright.narrowing import image_under, shortened, spread
from hullwright.points import combined
from hullwright.polytopes import hull
from hullwright.vectors import determinant, dot, inverted, unit


def is_reflexive(P):
    """Tell whether P is a lattice polytope with 0 inside whose polar is a lattice polytope, too."""
    # The vertices of the polar are the facets read as points: these are lattice points if they begin with 1.
    return is_lattice_polytope(P) and all([facet[0] == 1 for facet in P.facets()])


def facet_distance(P, k, point):
    """Return the distance of a lattice point from a facet of a lattice polytope, an integer."""
    check_lattice(P)
    # The divisor of c1, .., cd is 1: it divides c0, too, as the facet is tight at lattice points.
    return dot(P.facets()[k], point)


def boundary_points(P):
    """Return the ascending list of the lattice points of P that are not inside."""
    return [point for point in lattice_points(P) if not P.is_inside(point)]


def face_lattice_points(P, face):
    """Return the ascending list of the lattice points of a face."""
    facets = P.facets()
    rows = [facets[k] for k in facets_of(P, face)]
    return [point for point in lattice_points(P) if not any([dot(row, point) for row in rows])]


def is_unimodular(d, points, cell):
    """Tell whether a cell of lattice points has the least possible volume."""
    return abs(determinant([points[k] for k in cell])) == 1


def is_empty_cell(d, points, cell):
    """Tell whether the hull of a cell of lattice points contains no other lattice points."""
    return number_up_to(hull(d, [points[k] for k in cell]), d + 2) == d + 1


def lattice_size(P):
    """Return the least width of a lattice polytope along an integer direction other than zeros."""
    check_lattice(P)
    d = P.dimension()
    form = spread(P)
    basis = shortened(form, [unit(d, k) for k in range(d)])
    least = min([integer_width(P, direction) for direction in basis])
    # Along a direction of at most this width, no vertex is further than half of it from the middle of the range, and
    # the squares of the deviations from the average add up to no more than those of the deviations from there.
    # In the form each deviation is taken as many times as there are vertices.
    many = len(P.vertices())
    bound = many * many * many * least * least // 4
    return min([integer_width(P, direction) for direction in directions_up_to(form, basis, bound)])


def integer_width(P, direction):
    """Return the width of a lattice polytope along an integer direction."""
    return lattice_width(P, direction)[0]


def directions_up_to(form, basis, bound):
    """Return integer combinations of a basis, other than zeros and one of each two opposite ones.

    Among them are all those whose square under a form is at most a bound.
    """
    images = [image_under(form, vector) for vector in basis]
    inverse, divisor = inverted([tuple([dot(vector, image) for image in images]) for vector in basis])
    rows = [()]
    for k in range(len(basis)):
        # No factor in such a combination is greater, by the inequality of Cauchy and Schwarz.
        most = isqrt(bound * inverse[k][k] // divisor)
        rows = [row + (factor,) for row in rows for factor in range(-most, most + 1)]
    return [combined(row, basis) for row in rows if row > (0,) * len(basis)]
