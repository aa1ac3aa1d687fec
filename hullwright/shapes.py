"""Maps of vertices that make the faces of one polytope those of another one."""

from hullwright.forms import is_index
from hullwright.matching import in_place, matching_rows


def shape_map(first, second):
    """Return any map of the vertices that makes faces faces, or None if there is none."""
    found = shape_maps(first, second, True)
    return found[0] if found != [] else None


def shape_maps(first, second, only_one):
    """Return the list of all maps of the vertices that make faces faces, or of one of them if there is one."""
    rows = first.incidence()
    others = second.incidence()
    many = len(first.vertices())
    if many != len(second.vertices()) or len(rows) != len(others):
        return []
    order = neighbouring_order(rows, many)
    wanted = [trace(rows, order[:k + 1]) for k in range(many)]
    found = matching_rows(many, lambda images: trace(others, images) == wanted[len(images) - 1], only_one)
    return [in_place(order, images) for images in found]


def neighbouring_order(rows, many):
    """Return all indexes of vertices, each next one near to the earlier ones."""
    # Vertices far from each other would restrict each other's images too late in the search.
    order = [0]
    while len(order) < many:
        order.append(nearest(rows, many, order))
    return order


def nearest(rows, many, order):
    """Return the vertex not in the order that has the most facets in common with one of it."""
    best = None
    most = -1
    for k in range(many):
        if k not in order:
            common = max([common_rows(rows, k, other) for other in order])
            if common > most:
                best = k
                most = common
    return best


def common_rows(rows, first, second):
    """Return the number of the facets that contain two vertices."""
    return len([row for row in rows if first in row and second in row])


def trace(rows, chosen):
    """Return what the facets at the last chosen vertex have: their sizes and chosen vertices, by their place."""
    # If all traces up to some place agree, so do the facets with the vertices up to there.
    last = chosen[-1]
    return sorted([(len(row), tuple([k for k, at in enumerate(chosen) if at in row])) for row in rows if last in row])


def is_shape_map(first, second, value):
    """Tell whether any value is a map of the vertices that makes faces faces."""
    many = len(first.vertices())
    if not isinstance(value, tuple) or len(value) != many or many != len(second.vertices()):
        return False
    if not all([is_index(many, image) for image in value]) or len(set(value)) != many:
        return False
    return sorted([moved_row(row, value) for row in first.incidence()]) == sorted(second.incidence())


def moved_row(row, images):
    """Return the ascending tuple of the images of the vertices of a facet."""
    return tuple(sorted([images[k] for k in row]))
