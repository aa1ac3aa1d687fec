"""New polytopes of other dimensions."""

from hullwright.errors import BadFace, BadSize, Empty
from hullwright.faces import hull_in_kept_columns, neighbours, supporting
from hullwright.forms import is_index
from hullwright.known import simplex
from hullwright.numbers import least_of, times
from hullwright.points import combined, coordinates, made_point, middle, value_at
from hullwright.polytopes import common_part, hull
from hullwright.vectors import dot, primitive

MOST_DIMENSIONS = 4


def check_size(d):
    """Raise BadSize if there are no polytopes of a dimension."""
    if d < 1 or d > MOST_DIMENSIONS:
        raise BadSize("the dimension is not from 1 to 4")


def product(P, Q):
    """Return the polytope of the points made of a point of P and a point of Q behind it."""
    d = P.dimension() + Q.dimension()
    check_size(d)
    pairs = [(first, second) for first in P.vertices() for second in Q.vertices()]
    return hull(d, [made_point(coordinates(first) + coordinates(second)) for first, second in pairs])


def prism(P):
    """Return the product of P and the polytope with the vertices 0 and 1."""
    return product(P, simplex(1))


def pyramid(P):
    """Return the pyramid over P, with its tip above the middle of the vertices."""
    return with_tips(P, [1])


def bipyramid(P):
    """Return the double pyramid over P, with tips above and below the middle of the vertices."""
    return with_tips(P, [1, -1])


def with_tips(P, heights):
    """Return the hull of P at the height 0 and of the middle of its vertices at other heights."""
    d = P.dimension() + 1
    check_size(d)
    vertices = P.vertices()
    tips = [lifted(middle(vertices), height) for height in heights]
    return hull(d, [lifted(vertex, 0) for vertex in vertices] + tips)


def lifted(point, height):
    """Return a point with an integer as a further coordinate."""
    return point + (height * point[0],)


def shadow(P, k):
    """Return the polytope of the points of P without their coordinate k."""
    d = P.dimension() - 1
    check_size(d)
    return hull(d, [primitive(without(vertex, k)) for vertex in P.vertices()])


def without(row, k):
    """Return a row without its entry with the index k."""
    return row[:k] + row[k + 1:]


def section(P, k, value):
    """Return the polytope of the points of P whose coordinate k is a fraction, without this coordinate."""
    d = P.dimension() - 1
    check_size(d)
    rows = [sliced(facet, k, value) for facet in P.facets()]
    asking = [row for row in rows if any(row[1:])]
    # The other rows ask nothing of the coordinates that are left: they hold everywhere or nowhere.
    if any([row[0] < 0 for row in rows if row not in asking]):
        raise Empty("the polytope has no point with this coordinate")
    return common_part(d, [primitive(row) for row in asking])


def sliced(inequality, k, value):
    """Return a row that holds where the inequality does, if the coordinate k is a fraction."""
    row = [value[1] * entry for entry in without(inequality, k)]
    row[0] = row[0] + value[0] * inequality[k]
    return tuple(row)


def corner_figure(P, index):
    """Return the polytope of the points in which the edges at a vertex meet a plane near it."""
    check_size(P.dimension() - 1)
    vertices = P.vertices()
    if not is_index(len(vertices), index):
        raise BadFace("there is no vertex with this index")
    ends = [vertices[k] for k in neighbours(P)[index]]
    plane = cutting_plane(supporting(P, (index,)), ends)
    return hull_in_kept_columns([crossing(plane, vertices[index], end) for end in ends])


def cutting_plane(inequality, ends):
    """Return a row that is strict where an inequality is tight, and does not hold at ends where it is strict."""
    least = least_of([value_at(inequality, end) for end in ends])
    # Half of it is between the value at the vertex, which is 0, and those at all ends.
    height = times(least, (1, 2))
    row = [-height[1] * entry for entry in inequality]
    row[0] = row[0] + height[0]
    return tuple(row)


def crossing(plane, first, second):
    """Return the point between two others at which a row is 0 that is strict at the first one only."""
    return primitive(combined((-dot(plane, second), dot(plane, first)), [first, second]))
