"""Zonotopes: sums of segments from 0 to vectors."""

from hullwright.making import added, multiplied
from hullwright.matching import choices
from hullwright.numbers import sign
from hullwright.points import combined, middle
from hullwright.polytopes import Polytope, check_not_flat
from hullwright.vectors import common_divisor, determinant, dot, echelon, pivot_of, rank, relation, transposed, unit


def zonotope(d, vectors):
    """Return the polytope of all sums of one point each of the segments from 0 to some vectors."""
    check_not_flat([unit(d + 1, 0)] + [(1,) + vector for vector in vectors])
    rows = [row for row in sign_rows(d, vectors) if 0 not in row]
    facets = [facet_towards(vectors, form) for form in border_forms(d, vectors)]
    return Polytope(d, sorted([(1,) + sum_of_positive(vectors, row) for row in rows]), sorted(facets))


def sum_of_positive(vectors, row):
    """Return the sum of those vectors whose sign in a sign row is 1."""
    return combined([max(0, entry) for entry in row], vectors)


def facet_towards(vectors, form):
    """Return the inequality that is tight where a form is least on the zonotope."""
    least = sum([min(0, dot(form, vector)) for vector in vectors])
    return (-least,) + form


def border_forms(d, vectors):
    """Return the primitive forms that are 0 on vectors of the rank d - 1, if all have the rank d."""
    if d == 1:
        return [(1,), (-1,)]
    found = {}
    for chosen in choices(vectors, d - 1):
        if rank(chosen) == d - 1:
            form = relation(transposed(chosen))
            found[form] = True
            found[tuple([-entry for entry in form])] = True
    return list(found)


def sign_rows(d, vectors):
    """Return the ascending list of the sign rows of all forms."""
    kept = [pivot_of(row) for row in echelon(vectors)]
    zeros = (0,) * len(vectors)
    if kept == []:
        return [zeros]
    # Forms on these coordinates have the same sign rows as all forms, and the vectors have the full rank there.
    spots = [tuple([vector[k] for k in kept]) for vector in vectors]
    borders = [signs_of(form, spots) for form in border_forms(len(kept), spots)]
    found = {zeros: True}
    waiting = [zeros]
    while waiting != []:
        row = waiting.pop()
        for border in borders:
            # This row belongs to a form moved a little towards the form of the border.
            other = tuple([a if a != 0 else b for a, b in zip(row, border)])
            if other not in found:
                found[other] = True
                waiting.append(other)
    return sorted(found)


def signs_of(form, vectors):
    """Return the sign row of a form and a list of vectors."""
    return tuple([sign((dot(form, vector), 1)) for vector in vectors])


def zone_volume(d, vectors):
    """Return the sum of the absolute values of the determinants of all choices of d vectors."""
    return sum([abs(determinant(chosen)) for chosen in choices(vectors, d)])


def zone_count(d, vectors):
    """Return the number of the lattice points of the zonotope."""
    # Vectors that are not independent have only determinants 0, and add nothing.
    return 1 + sum([common_minor(chosen) for many in range(1, d + 1) for chosen in choices(vectors, many)])


def common_minor(rows):
    """Return the greatest common divisor of the determinants of all square parts with all rows of a matrix."""
    parts = choices(transposed(rows), len(rows))
    return common_divisor([determinant(part) for part in parts])


def has_centre(P):
    """Return the point to which a polytope is symmetric, or None if there is none."""
    vertices = P.vertices()
    # A mirror image of all vertices onto themselves leaves their middle where it is.
    centre = middle(vertices)
    double = multiplied(centre, (2, 1))
    if all([added(double, multiplied(vertex, (-1, 1))) in vertices for vertex in vertices]):
        return centre
    return None
