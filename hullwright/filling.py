"""Vectors of integers that fill the cone of independent vectors: each one in it is a sum of them."""

from hullwright.ehrhart import box_points
from hullwright.narrowing import shortened
from hullwright.points import combined
from hullwright.vectors import determinant, inverted, transposed, unit

# With more vectors in its box than this, a cone is divided rather than the box looked through.
SMALL_BOX = 1000


def filling_vectors(rows):
    """Return vectors of integers in the cone of independent rows, such that each one in it is a sum of them."""
    found = {}
    waiting = [rows]
    while waiting != []:
        cell = waiting.pop()
        parts = divided_cell(cell) if abs(determinant(cell)) > SMALL_BOX else []
        if parts == []:
            for vector in cell + box_vectors(cell):
                found[vector] = True
        waiting.extend(parts)
    return list(found)


def box_vectors(rows):
    """Return the vectors of integers, other than zeros, that are sums of rows times numbers from 0 to less than 1."""
    many = len(rows)
    return [vector for vector in box_points(many - 1, rows, tuple(range(many)), ()) if any(vector)]


def divided_cell(rows):
    """Return rows of smaller boxes, the cones of which are together that of the given rows, or no rows."""
    inverse, divisor = inverted(rows)
    shares = small_shares(inverse, divisor)
    if shares is None:
        return []
    vector = tuple([entry // divisor for entry in combined(shares, rows)])
    # Each part loses one row for the vector, and its box becomes smaller by the share of this row.
    return [rows[:k] + [vector] + rows[k + 1:] for k, share in enumerate(shares) if share > 0]


def small_shares(inverse, divisor):
    """Return the shares, each from 0 to less than the divisor, of some vector of integers; or None.

    They are to be divided by the divisor. They are small where this is easy to reach: all together they are those
    of a point near to 0 and to the middle line.
    """
    size = len(inverse)
    basis = shortened([unit(size, k) for k in range(size)], inverse)
    back, bottom = inverted(basis)
    best = None
    reach = divisor // 2
    while reach > 0:
        factors = [(2 * reach * sum(column) + bottom) // (2 * bottom) for column in transposed(back)]
        shares = combined(factors, basis)
        if min(shares) < 0 or not any(shares):
            return best
        if max(shares) < divisor:
            best = shares
        reach = reach // 2
    return best
