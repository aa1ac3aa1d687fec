"""Maps that make a polytope narrow along its first coordinates, so that few integers are tried there in vain."""

from hullwright.points import combined, with_common_first
from hullwright.vectors import dot, transposed, unit


def narrowing_map(P):
    """Return a map of integers with the determinant 1 or -1 after which the first coordinates vary least."""
    d = P.dimension()
    basis = shortened(spread(P), [unit(d, k) for k in range(d)])
    return [unit(d + 1, 0)] + [(0,) + column for column in transposed(basis)]


def spread(P):
    """Return the matrix of the form that tells for a direction the sum of the squares of the deviations along it."""
    spots = [spot[1:] for spot in with_common_first(P.vertices())]
    sums = combined([1] * len(spots), spots)
    deviations = [tuple([len(spots) * a - b for a, b in zip(spot, sums)]) for spot in spots]
    columns = transposed(deviations)
    return [tuple([dot(first, second) for second in columns]) for first in columns]


def shortened(form, basis):
    """Return a basis of short vectors for the integer combinations of a basis, the shortest one first."""
    shorter = swept(form, basis)
    while shorter != basis:
        basis = shorter
        shorter = swept(form, basis)
    return sorted(basis, key=lambda vector: dot(vector, image_under(form, vector)))


def image_under(form, vector):
    """Return the vector whose products with others are those of a vector with them that belong to a form."""
    return [dot(row, vector) for row in form]


def swept(form, basis):
    """Return a basis in which each vector has become shorter, where sums of the others can make it so."""
    for k in range(len(basis)):
        for factors in small_factors(len(basis), k):
            step = combined(factors, basis)
            shorter = nearest_to_zero(form, basis[k], step)
            basis = basis[:k] + [shorter] + basis[k + 1:]
    return basis


def small_factors(many, at):
    """Return the rows of the numbers -1, 0 and 1, not all 0, with 0 at an index, and one of each two opposite ones."""
    found = [()]
    for k in range(many):
        found = [row + (factor,) for row in found for factor in (0, 1, -1) if k != at or factor == 0]
    return [row for row in found if row > (0,) * many]


def nearest_to_zero(form, vector, step):
    """Return the shortest one of the sums of a vector and the multiples of a step, itself if it is among them."""
    image = image_under(form, step)
    square = dot(step, image)
    product = dot(vector, image)
    factor = (2 * product + square) // (2 * square)
    if factor * (factor * square - 2 * product) >= 0:
        return vector
    return tuple([a - factor * b for a, b in zip(vector, step)])
