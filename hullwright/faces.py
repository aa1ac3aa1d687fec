"""The faces of a polytope, as tuples of indexes of its vertices."""

from hullwright.errors import BadFace
from hullwright.forms import is_indexes
from hullwright.points import combined
from hullwright.polytopes import hull
from hullwright.vectors import primitive, rank


def faces(P):
    """Return the lists of the faces of each dimension, from -1 to d."""
    vertices = P.vertices()
    found = [[] for _ in range(P.dimension() + 2)]
    for face in all_faces(P):
        found[rank_of(vertices, face)].append(face)
    return found


def all_faces(P):
    """Return the ascending list of all faces."""
    many = len(P.vertices())
    # A set of vertices is kept as a number whose bits tell which vertices it has.
    sides = [mask_of(row) for row in P.incidence()]
    whole = (1 << many) - 1
    found = {whole: True}
    waiting = [whole]
    while waiting != []:
        mask = waiting.pop()
        for side in sides:
            if mask & side not in found:
                found[mask & side] = True
                waiting.append(mask & side)
    return sorted([face_of_mask(many, mask) for mask in found])


def mask_of(indexes):
    """Return the number whose bits with these indexes are set."""
    return sum([1 << k for k in indexes])


def face_of_mask(many, mask):
    """Return the ascending tuple of the indexes whose bits are set."""
    return tuple([k for k in range(many) if (mask >> k) & 1 == 1])


def rank_of(vertices, face):
    """Return the rank of the matrix of the vertices of a face."""
    if face == ():
        return 0
    return rank([vertices[k] for k in face])


def face_numbers(P):
    """Return the numbers of the faces of the dimensions from 0 to d."""
    return [len(row) for row in faces(P)[1:]]


def face_dimension(P, face):
    """Return the dimension of a face."""
    return rank_of(P.vertices(), face) - 1


def is_face(P, value):
    """Tell whether any value is a face."""
    return is_indexes(len(P.vertices()), value) and least_face(P, value) == value


def least_face(P, indexes):
    """Return the least face that contains the vertices with these indexes."""
    found = list(range(len(P.vertices())))
    for row in P.incidence():
        if is_part(indexes, row):
            found = [k for k in found if k in row]
    return tuple(found)


def is_part(first, second):
    """Tell whether all items of the first tuple are items of the second one."""
    return all([k in second for k in first])


def meet(P, first, second):
    """Return the face of the common vertices of two faces."""
    return tuple([k for k in first if k in second])


def join(P, first, second):
    """Return the least face that contains two faces."""
    return least_face(P, first + second)


def facets_of(P, face):
    """Return the indexes of the facets that are tight at all vertices of a face."""
    return [k for k, row in enumerate(P.incidence()) if is_part(face, row)]


def supporting(P, face):
    """Return any inequality that holds at all vertices and is tight exactly at those of a face."""
    check_proper(P, face)
    facets = P.facets()
    chosen = [facets[k] for k in facets_of(P, face)]
    return primitive(combined([1] * len(chosen), chosen))


def check_proper(P, face):
    """Raise BadFace if a value is no face, or the empty one, or the polytope itself."""
    if not is_face(P, face) or face == () or len(face) == len(P.vertices()):
        raise BadFace("not a face between the empty one and the polytope itself")


def graph(P):
    """Return the ascending list of the edges."""
    return faces(P)[2]


def neighbours(P):
    """Return for each vertex the ascending list of the other ends of its edges."""
    found = [[] for _ in P.vertices()]
    for first, second in graph(P):
        found[first].append(second)
        found[second].append(first)
    return found


def flags(P):
    """Return the number of the rows of faces of the dimensions 0 to d - 1, each in the next one."""
    rows = faces(P)[1:-1]
    # For each face it is counted in how many ways a row can end in it.
    ways = [1] * len(rows[0])
    for lower, upper in zip(rows, rows[1:]):
        ways = [ways_into(face, lower, ways) for face in upper]
    return sum(ways)


def ways_into(face, lower, ways):
    """Return the sum of the ways of those lower faces that are contained in a face."""
    return sum([way for part, way in zip(lower, ways) if is_part(part, face)])


def is_simple(P):
    """Tell whether each vertex is in exactly d facets."""
    d = P.dimension()
    return all([len(facets_of(P, (k,))) == d for k in range(len(P.vertices()))])


def is_simplicial(P):
    """Tell whether each facet has exactly d vertices."""
    return all([len(row) == P.dimension() for row in P.incidence()])


def face_polytope(P, face):
    """Return a face of a dimension from 1 to d as a polytope of this dimension."""
    if not is_face(P, face) or face_dimension(P, face) < 1:
        raise BadFace("not a face of a dimension from 1 to d")
    vertices = P.vertices()
    return hull_in_kept_columns([vertices[k] for k in face])


def hull_in_kept_columns(points):
    """Return the hull of points without those coordinates that the ones before them determine."""
    columns = kept_columns(points)
    return hull(len(columns) - 1, [primitive(picked(point, columns)) for point in points])


def kept_columns(points):
    """Return the column of w and the first columns of coordinates that give the rank of all."""
    columns = [0]
    for k in range(1, len(points[0])):
        if rank([picked(point, columns + [k]) for point in points]) > len(columns):
            columns.append(k)
    return columns


def picked(point, columns):
    """Return the entries of a point in some columns."""
    return tuple([point[k] for k in columns])
