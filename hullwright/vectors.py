"""Vectors and matrices of integers."""

from math import gcd, lcm

from hullwright.numbers import fraction


def dot(v, w):
    """Return the sum of the products of the entries of two vectors."""
    return sum([a * b for a, b in zip(v, w)])


def common_divisor(v):
    """Return the greatest common divisor of the entries of a vector, 0 for zeros."""
    common = 0
    for entry in v:
        common = gcd(common, entry)
    return common


def primitive(v):
    """Return a vector divided by the greatest common divisor of its entries."""
    common = common_divisor(v)
    if common == 0:
        return tuple(v)
    return tuple([entry // common for entry in v])


def transposed(rows):
    """Return the list of the columns of a matrix."""
    return [tuple([row[k] for row in rows]) for k in range(len(rows[0]))]


def echelon(rows):
    """Return the primitive integer multiples of the rows of the reduced echelon form."""
    work = [primitive(row) for row in rows]
    done = []
    for column in range(len(rows[0])):
        at = first_with_entry(work, column, 0)
        if at is not None:
            lead = with_positive_entry(work[at], column)
            done = [cleared(row, lead, column) for row in done]
            done.append(lead)
            work = [cleared(row, lead, column) for k, row in enumerate(work) if k != at]
    return done


def first_with_entry(rows, column, start):
    """Return the index of the first row from start on with an entry other than 0 in a column, or None."""
    for k in range(start, len(rows)):
        if rows[k][column] != 0:
            return k
    return None


def with_positive_entry(row, column):
    """Return a row or its negative, whose entry in a column is positive."""
    if row[column] < 0:
        return tuple([-entry for entry in row])
    return row


def cleared(row, lead, column):
    """Return a primitive positive multiple of a row minus a multiple of the lead, with 0 in the column."""
    factor = row[column]
    if factor == 0:
        return row
    return primitive([lead[column] * a - factor * b for a, b in zip(row, lead)])


def rank(rows):
    """Return the rank of a matrix."""
    return len(echelon(rows))


def determinant(rows):
    """Return the determinant of a square matrix."""
    work = [list(row) for row in rows]
    size = len(work)
    turn = 1
    last = 1
    for k in range(size - 1):
        at = first_with_entry(work, k, k)
        if at is None:
            return 0
        if at != k:
            work[k], work[at] = work[at], work[k]
            turn = -turn
        # All these entries are determinants of parts of the matrix, so the division leaves no rest.
        for i in range(k + 1, size):
            work[i] = [(work[k][k] * work[i][j] - work[i][k] * work[k][j]) // last for j in range(size)]
        last = work[k][k]
    return turn * work[size - 1][size - 1]


def pivot_of(row):
    """Return the index of the first entry of a row that is not 0."""
    at = 0
    while row[at] == 0:
        at += 1
    return at


def solve(rows, right):
    """Return fractions with which the columns add up to the vector right, or None."""
    width = len(rows[0])
    found = [(0, 1)] * width
    for row in echelon([tuple(row) + (entry,) for row, entry in zip(rows, right)]):
        at = pivot_of(row)
        if at == width:
            return None
        found[at] = fraction(row[width], row[at])
    return found


def relation(rows):
    """Return a primitive vector with which the rows add up to zeros, or None."""
    reduced = echelon(transposed(rows))
    pivots = [pivot_of(row) for row in reduced]
    free = [k for k in range(len(rows)) if k not in pivots]
    if free == []:
        return None
    common = 1
    for row, at in zip(reduced, pivots):
        common = lcm(common, row[at])
    found = [0] * len(rows)
    found[free[0]] = common
    for row, at in zip(reduced, pivots):
        found[at] = -row[free[0]] * (common // row[at])
    return primitive(found)


def inverted(rows):
    """Return a pair of integer rows and a number of at least 1: divided by it, the rows are the inverse matrix."""
    size = len(rows)
    reduced = echelon([tuple(row) + unit(size, k) for k, row in enumerate(rows)])
    common = 1
    for k in range(size):
        common = lcm(common, reduced[k][k])
    found = []
    for k in range(size):
        factor = common // reduced[k][k]
        found.append(tuple([factor * entry for entry in reduced[k][size:]]))
    return (found, common)


def unit(size, at):
    """Return the vector of this length with 1 at an index and 0 otherwise."""
    return (0,) * at + (1,) + (0,) * (size - at - 1)


def divided_down(rows):
    """Return a row and others, all with 0 first, that have the same integer combinations as the given rows."""
    rest = sorted([row for row in rows if row[0] != 0], key=lambda row: abs(row[0]))
    others = [row for row in rows if row[0] == 0]
    while len(rest) > 1:
        lead = rest[0]
        smaller = [reduced_by(row, lead) for row in rest[1:]]
        others.extend([row for row in smaller if row[0] == 0])
        rest = sorted([row for row in smaller if row[0] != 0] + [lead], key=lambda row: abs(row[0]))
    return (rest[0], others)


def reduced_by(row, lead):
    """Return a row minus a multiple of another one, which makes its first entry small."""
    factor = row[0] // lead[0]
    return [a - factor * b for a, b in zip(row, lead)]


def adapted_forms(vectors):
    """Return two lists of forms, together the rows of an integer matrix with the determinant 1 or -1.

    The second ones are 0 on all vectors, and the first ones are as many as the rank of the vectors.
    """
    size = len(vectors[0])
    # Behind the values of a form at the vectors stands the form itself.
    work = [list(column) + list(unit(size, k)) for k, column in enumerate(transposed(vectors))]
    first = []
    for _ in vectors:
        if any([row[0] != 0 for row in work]):
            lead, work = divided_down(work)
            first.append(tuple(lead[-size:]))
        work = [row[1:] for row in work]
    return (first, [tuple(row) for row in work])
