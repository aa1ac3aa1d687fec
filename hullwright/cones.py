"""Cones of lists of vectors, normals of faces, and the cones at vertices."""

from hullwright.faces import check_proper, facets_of, neighbours
from hullwright.forms import is_integer, is_vector, is_weights, is_worded
from hullwright.points import combined, reversed_inequality
from hullwright.vectors import dot, primitive
from hullwright.weighing import weighing


def cone_paper(d, generators, vector):
    """Return any right cone paper for a list of vectors and a vector."""
    return weighing(generators, vector)


def check_cone(d, generators, vector, value):
    """Tell whether any value is a right cone paper for a list of vectors and a vector."""
    if is_worded(value, "yes", 3):
        return shows_inside(generators, vector, value[1], value[2])
    if is_worded(value, "no", 2):
        return is_vector(d, value[1]) and shows_outside(generators, vector, value[1])
    return False


def shows_inside(generators, vector, weights, multiple):
    """Tell whether values are weights that lead to a multiple of a vector, and its number, which is at least 1."""
    if not is_weights(len(generators), weights) or not is_integer(multiple) or multiple < 1:
        return False
    return combined(weights, generators) == tuple([multiple * entry for entry in vector])


def shows_outside(generators, vector, other):
    """Tell whether the products of a vector are at least 0 with the generators, and less than 0 with another one."""
    return dot(other, vector) < 0 and all([dot(other, generator) >= 0 for generator in generators])


def normals(P, face):
    """Return the vectors of the facets that are tight at all vertices of a face."""
    facets = P.facets()
    return [facets[k][1:] for k in facets_of(P, face)]


def normal_paper(P, face, form):
    """Return any right cone paper for the normals of a face, turned around, and a form."""
    check_proper(P, face)
    return cone_paper(P.dimension(), [reversed_inequality(normal) for normal in normals(P, face)], form)


def are_parallel(P, Q):
    """Tell whether two polytopes have the same directions of facets, which meet in the same way at the vertices."""
    return directions_at_vertices(P) == directions_at_vertices(Q)


def directions_at_vertices(P):
    """Return the ascending list that tells for each vertex the directions of the facets at it, ascending too."""
    return sorted([sorted([primitive(normal) for normal in normals(P, (k,))]) for k in range(len(P.vertices()))])


def edge_vectors(P, index):
    """Return the ascending list of the primitive vectors that lead from a vertex along its edges."""
    vertices = P.vertices()
    return sorted([step_between(vertices[index], vertices[k]) for k in neighbours(P)[index]])


def step_between(start, end):
    """Return the primitive vector that leads from a point to another one."""
    return primitive([start[0] * b - end[0] * a for a, b in zip(start[1:], end[1:])])


def tangent_facets(P, index):
    """Return the ascending list of the facets that are tight at a vertex."""
    facets = P.facets()
    return [facets[k] for k in facets_of(P, (index,))]
