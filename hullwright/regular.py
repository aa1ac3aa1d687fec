"""Regular triangulations: those that come from heights."""

from hullwright.cells import lower_cells
from hullwright.circuits import all_triangulations
from hullwright.forms import is_index, is_integer, is_vector, is_worded
from hullwright.points import combined, with_common_first
from hullwright.vectors import relation
from hullwright.weighing import weighing


def height_paper(d, points, cells):
    """Return any right paper that tells whether a triangulation is regular."""
    places = fold_places(points, cells)
    folds = [fold(points, cells[at], k) for at, k in places]
    # The last entry asks that the weights are not all 0. If there are none, the products of the heights with all
    # folds are greater than 0.
    found = weighing([row + (1,) for row in folds], (0,) * len(points) + (1,))
    if found[0] == "no":
        return ("yes", found[1][:-1])
    return ("no", tuple([place + (weight,) for place, weight in zip(places, found[1]) if weight > 0]))


def fold_places(points, cells):
    """Return the ascending list of the pairs of the index of a cell and that of a point that is not in it."""
    return [(at, k) for at, cell in enumerate(cells) for k in range(len(points)) if k not in cell]


def fold(points, cell, k):
    """Return the fold of a cell and of a point that is not in it."""
    spots = with_common_first(points)
    indexes = cell + (k,)
    weights = relation([spots[i] for i in indexes])
    found = [0] * len(points)
    for i, weight in zip(indexes, weights):
        found[i] = weight if weights[-1] > 0 else -weight
    return tuple(found)


def check_heights(d, points, cells, value):
    """Tell whether any value is a right height paper for a triangulation."""
    if is_worded(value, "yes", 2):
        return is_vector(len(points), value[1]) and lower_cells(d, points, list(value[1])) == list(cells)
    if is_worded(value, "no", 2):
        return is_row_of_parts(points, cells, value[1]) and not any(sum_of_folds(points, cells, value[1]))
    return False


def is_row_of_parts(points, cells, value):
    """Tell whether a value is an ascending tuple of triples of a cell, a point and a weight, at least one."""
    if not isinstance(value, tuple) or len(value) == 0 or not all([is_part(points, cells, entry) for entry in value]):
        return False
    return all([first[:2] < second[:2] for first, second in zip(value, value[1:])])


def is_part(points, cells, value):
    """Tell whether a value is a triple of the index of a cell, that of a point not in it, and a weight."""
    if not isinstance(value, tuple) or len(value) != 3:
        return False
    at, k, weight = value
    if not is_index(len(cells), at) or not is_index(len(points), k) or k in cells[at]:
        return False
    return is_integer(weight) and weight >= 1


def sum_of_folds(points, cells, parts):
    """Return the sum of the folds of some triples times their weights."""
    folds = [fold(points, cells[at], k) for at, k, _ in parts]
    return combined([part[2] for part in parts], folds)


def is_fine(points, cells):
    """Tell whether each point occurs in a cell."""
    return all([any([k in cell for cell in cells]) for k in range(len(points))])


def counts_of_kinds(d, points):
    """Return the numbers of all triangulations, of the fine ones and of the regular ones."""
    rows = all_triangulations(d, points)
    fine = len([cells for cells in rows if is_fine(points, cells)])
    regular = len([cells for cells in rows if height_paper(d, points, cells)[0] == "yes"])
    return (len(rows), fine, regular)
