"""Sums of lattice vectors: the basic vectors of pointed cones, and normal lattice polytopes."""

from hullwright.ehrhart import check_lattice
from hullwright.errors import NotPointed
from hullwright.faces import face_of_mask, mask_of
from hullwright.filling import filling_vectors
from hullwright.points import combined, made_point
from hullwright.polytopes import zeros_of
from hullwright.pulling import pulled
from hullwright.rays import extreme_rays
from hullwright.vectors import adapted_forms, dot, inverted, solve, transposed
from hullwright.weighing import weighing


def pointing(d, generators):
    """Return any vector whose products with all generators are greater than 0, or None if there is none."""
    # If no weights lead to the last entry alone, what parts from it has a last entry below 0, so that its products
    # with the generators themselves are greater than 0.
    found = weighing([vector + (1,) for vector in generators], (0,) * d + (1,))
    if found[0] == "yes":
        return None
    return found[1][:-1]


def check_pointed(d, generators):
    """Raise NotPointed if the cone of some generators is not pointed."""
    if pointing(d, generators) is None:
        raise NotPointed("some sum of generators is a vector of zeros")


def basic_vectors(d, generators):
    """Return the ascending list of the basic vectors of a pointed cone."""
    check_pointed(d, generators)
    forms, flat = adapted_forms(generators)
    sides = sides_in_coordinates(forms, generators)
    rays = extreme_rays(sides)
    candidates = {}
    for cell in cells_of_cone(rays, sides):
        for vector in filling_vectors([rays[k] for k in cell]):
            candidates[vector] = True
    columns = transposed(inverted(forms + flat)[0])
    return sorted([combined(vector, columns) for vector in irreducible_ones(list(candidates), rays, sides)])


def sides_in_coordinates(forms, generators):
    """Return the forms around a cone, in the coordinates that are the values of the given forms."""
    return extreme_rays([tuple([dot(form, vector) for form in forms]) for vector in generators])


def cells_of_cone(rays, sides):
    """Return the tuples of the indexes of independent rays whose cones together are the cone of all rays."""
    masks = [mask_of(zeros_of(side, rays)) for side in sides]
    return [face_of_mask(len(rays), mask) for mask in pulled(masks, (1 << len(rays)) - 1)]


def irreducible_ones(vectors, rays, sides):
    """Return those vectors of a cone, from which all others are sums, that are not sums of two others."""
    form = grading(rays, sides)
    graded = sorted([(dot(form, vector), tuple([dot(side, vector) for side in sides]), vector) for vector in vectors])
    kept = []
    for grade, heights, vector in graded:
        if not has_part(kept, grade, heights):
            kept.append((grade, heights, vector))
    return [row[2] for row in kept]


def has_part(kept, grade, heights):
    """Tell whether a vector, of which its values are given, is the sum of a kept one and another one of the cone."""
    for part_grade, part_heights, _ in kept:
        # Of the parts of a sum, some one has at most half of its grade, and the kept ones stand in order.
        if 2 * part_grade > grade:
            return False
        if is_below(part_heights, heights):
            return True
    return False


def is_below(heights, others):
    """Tell whether numbers are at most as great as others."""
    for a, b in zip(heights, others):
        if a > b:
            return False
    return True


def grading(rays, sides):
    """Return a form that is greater than 0 on a cone, the same at all rays if there is such a one."""
    found = solve(rays, (1,) * len(rays))
    if found is None:
        return combined([1] * len(sides), sides)
    return made_point(found)[1:]


def as_sum(d, generators, vector):
    """Return any weights of the basic vectors with which they add up to a vector, or None if the cone lacks it."""
    found = basic_vectors(d, generators)
    forms, flat = adapted_forms(generators)
    sides = [combined(side, forms) for side in sides_in_coordinates(forms, generators)]
    if any([dot(form, vector) != 0 for form in flat]) or any([dot(side, vector) < 0 for side in sides]):
        return None
    weights = []
    # As long as something is left, it is a sum of basic vectors, one of which can be taken away.
    for basic in found:
        weights.append(greatest_multiple(sides, basic, vector))
        vector = combined((1, -weights[-1]), [vector, basic])
    return tuple(weights)


def greatest_multiple(sides, basic, vector):
    """Return how often a basic vector can be taken away from a vector, so that it stays in the cone."""
    return min([dot(side, vector) // dot(side, basic) for side in sides if dot(side, basic) > 0])


def is_normal(P):
    """Tell whether all lattice points of the multiples of a lattice polytope are sums of its lattice points."""
    return sum_gap(P) == []


def sum_gap(P):
    """Return the ascending list of the basic vectors of the cone of the vertices whose first entry is not 1."""
    check_lattice(P)
    d = P.dimension()
    if d <= 2:
        return []
    return [vector for vector in basic_vectors(d + 1, P.vertices()) if vector[0] > 1]
