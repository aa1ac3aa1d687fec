"""Ways along the edges of a polytope."""

from hullwright.faces import graph, neighbours
from hullwright.forms import is_index
from hullwright.numbers import compare
from hullwright.optimum import form_value


def rising_way(P, form, start):
    """Return any rising way from a vertex to the face at which a form has its greatest value."""
    values = vertex_values(P, form)
    ends = neighbours(P)
    way = [start]
    higher = higher_ones(values, ends[start], start)
    # A vertex without a higher neighbour is in the best face.
    while higher != []:
        way.append(higher[0])
        higher = higher_ones(values, ends[way[-1]], way[-1])
    return tuple(way)


def vertex_values(P, form):
    """Return the values of a form at all vertices."""
    return [form_value(form, vertex) for vertex in P.vertices()]


def higher_ones(values, indexes, at):
    """Return those indexes at which a value stands that is greater than the one at another index."""
    return [k for k in indexes if compare(values[k], values[at]) > 0]


def is_rising_way(P, form, value):
    """Tell whether any value is a rising way for a form."""
    many = len(P.vertices())
    if not isinstance(value, tuple) or len(value) == 0 or not all([is_index(many, entry) for entry in value]):
        return False
    values = vertex_values(P, form)
    edges = graph(P)
    for first, second in zip(value, value[1:]):
        if (min(first, second), max(first, second)) not in edges or compare(values[first], values[second]) >= 0:
            return False
    return True


def distance(P, first, second):
    """Return the least number of edges of a way from one vertex to another one."""
    return distances(neighbours(P), first)[second]


def diameter(P):
    """Return the greatest distance of two vertices."""
    ends = neighbours(P)
    return max([max(distances(ends, start)) for start in range(len(ends))])


def distances(ends, start):
    """Return for each vertex its distance from a start, if the other ends of the edges at each vertex are given."""
    found = {start: 0}
    layer = [start]
    steps = 0
    while layer != []:
        steps += 1
        layer = [k for k in range(len(ends)) if k not in found and any([other in layer for other in ends[k]])]
        for k in layer:
            found[k] = steps
    return [found[k] for k in range(len(ends))]
