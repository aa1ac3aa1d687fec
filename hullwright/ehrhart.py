"""The numbers of lattice points in all multiples of a lattice polytope."""

from math import comb

from hullwright.errors import NotLattice
from hullwright.lattice import count, inner_count
from hullwright.making import scaled
from hullwright.numbers import floor, minus, times
from hullwright.polynomials import polynomial_through, polynomial_value
from hullwright.vectors import divided_down, dot, inverted, transposed
from hullwright.volumes import volume

# The multiples that are counted, as few and as small as can be; -1 stands for the points inside.
MULTIPLES = (0, 1, -1, 2)


def is_lattice_polytope(P):
    """Tell whether all vertices are lattice points."""
    return all([vertex[0] == 1 for vertex in P.vertices()])


def check_lattice(P):
    """Raise NotLattice if some vertex is not a lattice point."""
    if not is_lattice_polytope(P):
        raise NotLattice("a vertex is not a lattice point")


def ehrhart(P):
    """Return the coefficients of the polynomial that counts the lattice points of the multiples."""
    check_lattice(P)
    d = P.dimension()
    last = volume(P)
    places = list(MULTIPLES[:d])
    # What is counted, without the last term, which is known.
    values = [minus((counted_multiple(P, t), 1), times(last, (power(t, d), 1))) for t in places]
    return polynomial_through(places, values) + [last]


def counted_multiple(P, t):
    """Return the value at t, one of MULTIPLES, of the polynomial that counts."""
    if t == 0:
        return 1
    if t == 1:
        return count(P)
    if t == -1:
        return power(-1, P.dimension()) * inner_count(P)
    return count(scaled(P, (t, 1)))


def power(number, exponent):
    """Return a power of an integer."""
    result = 1
    for _ in range(exponent):
        result = result * number
    return result


def ehrhart_value(coefficients, t):
    """Return the integer value of a polynomial at an integer."""
    return floor(polynomial_value(coefficients, (t, 1)))


def h_star(P):
    """Return the integers that count the lattice points of the multiples together with choices of d things."""
    d = P.dimension()
    coefficients = ehrhart(P)
    values = [ehrhart_value(coefficients, t) for t in range(d + 1)]
    # The choices are the powers of 1 / (1 - x), so this is the product with a power of 1 - x.
    signed = [power(-1, k) * comb(d + 1, k) for k in range(d + 1)]
    return [sum([signed[k] * values[t - k] for k in range(t + 1)]) for t in range(d + 1)]


def box_points(d, points, cell, open_facets):
    """Return the ascending list of the vectors of integers in a half-open parallelepiped."""
    rows = [points[k] for k in cell]
    inverse, divisor = inverted(rows)
    columns = transposed(rows)
    share_columns = transposed(inverse)
    at_ends = [k in open_facets for k in cell]
    found = []
    for vector in all_remainders(rows):
        shares = [dot(vector, column) for column in share_columns]
        moves = [outer_part(share, divisor, at_end) for share, at_end in zip(shares, at_ends)]
        found.append(tuple([entry - dot(moves, column) for entry, column in zip(vector, columns)]))
    return sorted(found)


def outer_part(share, divisor, at_end):
    """Return the integer that a share, to be divided, is greater by than a number from 0 to 1.

    The number is less than 1, or, at the end, greater than 0.
    """
    if at_end:
        return -(-share // divisor) - 1
    return share // divisor


def all_remainders(rows):
    """Return one vector of integers of each kind, where the rows and their sums make no difference."""
    found = [()]
    for size in step_sizes(rows):
        found = [start + (entry,) for start in found for entry in range(size)]
    return found


def step_sizes(rows):
    """Return for each column the least positive entry of an integer combination with zeros before it."""
    work = [list(row) for row in rows]
    sizes = []
    while work != []:
        lead, others = divided_down(work)
        sizes.append(abs(lead[0]))
        work = [row[1:] for row in others]
    return sizes
