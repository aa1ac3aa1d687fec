"""Copies of a polytope inside of another one, and projections of systems."""

from hullwright.errors import BadSize, Empty
from hullwright.numbers import fraction, greatest_of, least_of
from hullwright.optimum import form_value, optimum_paper
from hullwright.points import combined, coordinates, made_inequality
from hullwright.polytopes import common_part
from hullwright.systems import case_of
from hullwright.vectors import primitive, unit


def is_contained(P, Q):
    """Tell whether every point of P is in Q."""
    return all([Q.contains(vertex) for vertex in P.vertices()])


def box_of(P):
    """Return the list of the pairs of the least and the greatest value of each coordinate on P."""
    rows = [coordinates(vertex) for vertex in P.vertices()]
    columns = [[row[k] for row in rows] for k in range(P.dimension())]
    return [(least_of(column), greatest_of(column)) for column in columns]


def fit(P, Q):
    """Return the greatest factor with which a copy of Q fits into P, and any point at which it does."""
    d = P.dimension()
    paper = optimum_paper(d + 1, factor_rows(P, Q), unit(d + 1, d))
    best = paper[1]
    return (fraction(best[-1], best[0]), primitive(best[:-1]))


def fit_system(P, Q):
    """Return the system of the places and factors of the copies of Q that fit into P."""
    if P.dimension() == 4:
        raise BadSize("the system would have the dimension 5")
    return factor_rows(P, Q)


def factor_rows(P, Q):
    """Return for each facet of P the inequality of a place and a factor that holds where it does on the copy of Q."""
    return [factor_row(facet, Q.vertices()) for facet in P.facets()]


def factor_row(facet, points):
    """Return the inequality of a place and a factor that holds if a facet does at the copies of some points."""
    least = least_of([form_value(facet[1:], point) for point in points])
    return made_inequality([least[1] * entry for entry in facet] + [least[0]])


def eroded(P, Q):
    """Return the polytope of the points at which Q itself fits into P."""
    # With the factor 1, its entry is added to the first one.
    rows = [made_inequality((row[0] + row[-1],) + row[1:-1]) for row in factor_rows(P, Q)]
    return common_part(P.dimension(), rows)


def projected(d, rows, k):
    """Return inequalities that hold at the points which some solution of the system is without its coordinate k."""
    if d == 1:
        raise BadSize("no coordinate would be left")
    if case_of(d, rows) == "empty":
        raise Empty("no point satisfies the system")
    above = [row for row in rows if row[k] > 0]
    below = [row for row in rows if row[k] < 0]
    sums = [combined((-low[k], high[k]), [high, low]) for high in above for low in below]
    kept = [row[:k] + row[k + 1:] for row in [row for row in rows if row[k] == 0] + sums]
    # Rows that ask nothing of the coordinates hold, because there are solutions.
    return sorted(set([made_inequality(row) for row in kept if any(row[1:])]))
