"""Maps of vertices that make the faces of one polytope those of another one."""

from hullwright.forms import is_index


def shape_map(first, second):
    """Return any map of the vertices that makes faces faces, or None if there is none."""
    rows = first.incidence()
    others = second.incidence()
    many = len(first.vertices())
    if many != len(second.vertices()) or len(rows) != len(others):
        return None
    order = neighbouring_order(rows, many)
    images = completed(rows, others, order, [])
    if images is None:
        return None
    return tuple([image for _, image in sorted(list(zip(order, images)))])


def neighbouring_order(rows, many):
    """Return all indexes of vertices, each next one near to the earlier ones."""
    # Vertices far from each other would restrict each other's images too late in the search.
    order = [0]
    while len(order) < many:
        order.append(nearest(rows, many, order))
    return order


def nearest(rows, many, order):
    """Return the vertex not in the order that has the most facets in common with one of it."""
    best = None
    most = -1
    for k in range(many):
        if k not in order:
            common = max([common_rows(rows, k, other) for other in order])
            if common > most:
                best = k
                most = common
    return best


def common_rows(rows, first, second):
    """Return the number of the facets that contain two vertices."""
    return len([row for row in rows if first in row and second in row])


def completed(rows, others, order, images):
    """Return the images of all vertices in an order, the first of which are given, or None if there are none."""
    many = len(images)
    if traces(rows, order[:many]) != traces(others, images):
        return None
    if many == len(order):
        return images
    for k in range(len(order)):
        if k not in images:
            found = completed(rows, others, order, images + [k])
            if found is not None:
                return found
    return None


def traces(rows, chosen):
    """Return the ascending list that tells for each facet its size and its chosen vertices, by their place."""
    return sorted([(len(row), tuple([k for k, at in enumerate(chosen) if at in row])) for row in rows])


def is_shape_map(first, second, value):
    """Tell whether any value is a map of the vertices that makes faces faces."""
    many = len(first.vertices())
    if not isinstance(value, tuple) or len(value) != many or many != len(second.vertices()):
        return False
    if not all([is_index(many, image) for image in value]) or len(set(value)) != many:
        return False
    return sorted([moved_row(row, value) for row in first.incidence()]) == sorted(second.incidence())


def moved_row(row, images):
    """Return the ascending tuple of the images of the vertices of a facet."""
    return tuple(sorted([images[k] for k in row]))
