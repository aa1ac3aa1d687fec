"""Circuits of lists of points, all triangulations, and the flips between them."""

from hullwright.faces import face_of_mask, mask_of
from hullwright.matching import choices
from hullwright.points import combined
from hullwright.vectors import determinant, dot, inverted, rank, relation, transposed


def circuits(d, points):
    """Return the ascending list of the circuits whose first tuple contains the least index of both."""
    found = []
    for many in range(3, d + 3):
        for chosen in choices(list(range(len(points))), many):
            rows = [points[k] for k in chosen]
            if rank(rows) == many - 1 and 0 not in relation(rows):
                found.append(parted(chosen, relation(rows)))
    return sorted(found)


def parted(indexes, weights):
    """Return the pair of the indexes whose weights have the sign of the first weight, and of the others."""
    first = tuple([k for k, weight in zip(indexes, weights) if weight * weights[0] > 0])
    return (first, tuple([k for k in indexes if k not in first]))


def all_triangulations(d, points):
    """Return the ascending list of all triangulations of a list of points."""
    cells = all_cells(d, points)
    friends = compatible_cells(d, points, cells)
    beyond = [cells_beyond(points, cells, cell) for cell in cells]
    found = []
    # Sets of cells are numbers whose bits tell which cells they have: those chosen, those that fit to all of them,
    # and for each inner side of a chosen cell those beyond it, one of which is needed.
    waiting = [(1 << k, friends[k], beyond[k]) for k in cells_at_one_place(points, cells)]
    while waiting != []:
        chosen, fitting, sides = waiting.pop()
        missing = [side for side in sides if side & chosen == 0]
        if missing == []:
            found.append(tuple([cells[k] for k in face_of_mask(len(cells), chosen)]))
        else:
            for k in face_of_mask(len(cells), missing[0] & fitting):
                waiting.append((chosen | (1 << k), fitting & friends[k], missing[1:] + beyond[k]))
    return sorted(found)


def all_cells(d, points):
    """Return the ascending list of all cells of a list of points."""
    rows = choices(list(range(len(points))), d + 1)
    return [row for row in rows if determinant([points[k] for k in row]) != 0]


def compatible_cells(d, points, cells):
    """Return for each cell the set of the cells that meet it in the hull of their common points, as a number."""
    masks = [mask_of(cell) for cell in cells]
    # Two cells meet elsewhere exactly if one of them contains one side of a circuit and the other one the other side.
    pairs = [(mask_of(first), mask_of(second)) for first, second in circuits(d, points)]
    turned = [(second, first) for first, second in pairs]
    return [compatible_with(mask, masks, pairs + turned) for mask in masks]


def compatible_with(mask, masks, pairs):
    """Return the set of the cells that do not contain the other side of a pair, one side of which a cell contains."""
    others = [second for first, second in pairs if first & mask == first]
    return mask_of([k for k, cell in enumerate(masks) if not any([other & cell == other for other in others])])


def cells_beyond(points, cells, cell):
    """Return for each side of a cell the set of the cells that lie on its other side, if there are such cells."""
    found = []
    for k in cell:
        side = [i for i in cell if i != k]
        turn = height_above(points, side, k)
        across = [tuple(sorted(side + [i])) for i in range(len(points)) if height_above(points, side, i) * turn < 0]
        if across != []:
            found.append(mask_of([at for at, other in enumerate(cells) if other in across]))
    return found


def height_above(points, side, at):
    """Return the determinant of the points of a side and a further one: its sign tells on which part this one lies."""
    return determinant([points[k] for k in side] + [points[at]])


def cells_at_one_place(points, cells):
    """Return the indexes of the cells around some point that lies in no plane through points."""
    columns = [transposed(inverted([points[k] for k in cell])[0]) for cell in cells]
    start = [points[k] for k in cells[0]]
    factor = 2
    shares = shares_in_cells(columns, start, factor)
    # Each plane contains such points for few factors only.
    while any([0 in row for row in shares]):
        factor += 1
        shares = shares_in_cells(columns, start, factor)
    return [k for k, row in enumerate(shares) if min(row) > 0]


def shares_in_cells(columns, start, factor):
    """Return for each cell the shares of its points in a sum of points with the powers of a factor as weights."""
    spot = start[0]
    for point in start[1:]:
        spot = combined((factor, 1), [spot, point])
    return [[dot(spot, column) for column in row] for row in columns]


def flips(d, points, cells):
    """Return the ascending list of the triangulations that come from a triangulation by one flip."""
    found = {}
    for first, second in circuits(d, points):
        for upper, lower in ((first, second), (second, first)):
            links = common_links(cells, parts_without_one(upper, lower))
            if links is not None:
                found[flipped(cells, upper, lower, links)] = True
    return sorted(found)


def parts_without_one(first, second):
    """Return the sets of all indexes of two tuples, without one of the first tuple."""
    return [tuple([k for k in first if k != i]) + second for i in first]


def common_links(cells, parts):
    """Return the ascending list of the links of the parts, or None if they differ or there are none."""
    found = [links_of(cells, part) for part in parts]
    if found[0] == [] or any([links != found[0] for links in found]):
        return None
    return found[0]


def links_of(cells, part):
    """Return the ascending list of what is left of the cells that contain a part, without its indexes."""
    around = [cell for cell in cells if all([k in cell for k in part])]
    return sorted([tuple([k for k in cell if k not in part]) for cell in around])


def flipped(cells, upper, lower, links):
    """Return the triangulation in which the cells of one part of a circuit are replaced by those of the other part."""
    gone = united_cells(parts_without_one(upper, lower), links)
    fresh = united_cells(parts_without_one(lower, upper), links)
    return tuple(sorted([cell for cell in cells if cell not in gone] + fresh))


def united_cells(parts, links):
    """Return the unions of a part and a link, as ascending tuples."""
    return [tuple(sorted(part + link)) for part in parts for link in links]
