"""Cells of a polytope: from the first vertex of each face to the parts of the face that do not contain it."""

from hullwright.faces import face_of_mask, mask_of


def pulled_cells(P):
    """Return the list of the cells of a triangulation of the vertices of a polytope."""
    return cells_of_mask(P, (1 << len(P.vertices())) - 1)


def pulled_sides(P):
    """Return for each facet the list of the cells, of d vertices each, that it consists of."""
    return [cells_of_mask(P, mask) for mask in sides_of(P)]


def sides_of(P):
    """Return the masks of the facets, numbers whose bits tell which vertices they have."""
    return [mask_of(row) for row in P.incidence()]


def cells_of_mask(P, mask):
    """Return the cells of the face with a mask, as ascending tuples of indexes of vertices."""
    many = len(P.vertices())
    return [face_of_mask(many, cell) for cell in pulled(sides_of(P), mask)]


def pulled(sides, mask):
    """Return the masks of the cells of a face with a mask."""
    # Faces take their first vertex in the same order, so the cells of neighbours agree where they touch.
    first = mask & -mask
    if mask == first:
        return [mask]
    found = []
    for part in greatest_parts(sides, mask):
        if part & first == 0:
            found.extend([first | cell for cell in pulled(sides, part)])
    return found


def greatest_parts(sides, mask):
    """Return the masks of the faces whose dimension is one less than that of the face with a mask."""
    parts = sorted(set([mask & side for side in sides if mask & side != mask]))
    return [part for part in parts if not any([part & other == part for other in parts if other != part])]
