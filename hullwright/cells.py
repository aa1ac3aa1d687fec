"""Cells of lists of points, triangulations, and lower cells of heights."""

from math import factorial

from hullwright.forms import is_indexes
from hullwright.numbers import fraction, total
from hullwright.polytopes import check_not_flat, hull
from hullwright.pulling import pulled_cells
from hullwright.rays import extreme_rays
from hullwright.vectors import determinant, dot
from hullwright.weighing import weighing


def cell_volume(d, points, cell):
    """Return the volume of a cell of a list of points."""
    chosen = [points[k] for k in cell]
    bottom = factorial(d)
    for point in chosen:
        bottom = bottom * point[0]
    return fraction(abs(determinant(chosen)), bottom)


def cells_volume(d, points, cells):
    """Return the sum of the volumes of some cells."""
    return total([cell_volume(d, points, cell) for cell in cells])


def is_triangulation(d, points, value):
    """Tell whether any value is a triangulation of a list of points."""
    if not is_cell_row(d, points, value):
        return False
    # Cells that overlap nowhere cover the hull exactly if they have its volume.
    if cells_volume(d, points, value) != cells_volume(d, points, triangulation(d, points)):
        return False
    pairs = [(value[i], value[k]) for k in range(len(value)) for i in range(k)]
    return all([meet_in_common_points(points, first, second) for first, second in pairs])


def is_cell_row(d, points, value):
    """Tell whether a value is an ascending tuple of at least one cell."""
    if not isinstance(value, tuple) or len(value) == 0 or not all([is_cell(d, points, entry) for entry in value]):
        return False
    return all([value[k] < value[k + 1] for k in range(len(value) - 1)])


def is_cell(d, points, value):
    """Tell whether a value is a cell of a list of points."""
    if not is_indexes(len(points), value) or len(value) != d + 1:
        return False
    return determinant([points[k] for k in value]) != 0


def meet_in_common_points(points, first, second):
    """Tell whether the hulls of two cells have only the hull of their common points in common."""
    common = [points[k] for k in first if k in second]
    rows = [points[k] + (1,) for k in first if k not in second]
    rows += [opposite(points[k]) + (1,) for k in second if k not in first]
    rows += [point + (0,) for point in common] + [opposite(point) + (0,) for point in common]
    # A further common point has two combinations: one has some weight that the common points cannot take back.
    # The last entry asks for such a weight.
    return weighing(rows, (0,) * len(points[0]) + (1,))[0] == "no"


def opposite(vector):
    """Return a vector with all signs turned around."""
    return tuple([-entry for entry in vector])


def triangulation(d, points):
    """Return any triangulation of a list of different points."""
    P = hull(d, points)
    places = [points.index(vertex) for vertex in P.vertices()]
    return tuple(sorted([tuple(sorted([places[k] for k in cell])) for cell in pulled_cells(P)]))


def lower_cells(d, points, heights):
    """Return the ascending list of the lower cells of a list of different points with heights."""
    check_not_flat(points)
    raised = [point + (point[0] * height,) for point, height in zip(points, heights)]
    # The further row is a point far above: it leaves the lower side as it is, and there is always an upper side.
    planes = extreme_rays(raised + [(0,) * (d + 1) + (1,)])
    lower = [plane for plane in planes if plane[-1] > 0]
    return sorted([tuple([k for k, row in enumerate(raised) if dot(plane, row) == 0]) for plane in lower])
