"""Symmetries of a polytope, and affine maps between polytopes."""

from hullwright.ehrhart import check_lattice
from hullwright.faces import faces
from hullwright.forms import is_vector
from hullwright.making import moved
from hullwright.matching import in_place, matching_rows
from hullwright.numbers import fraction
from hullwright.points import combined, with_common_first
from hullwright.polytopes import same
from hullwright.rays import independent_rows
from hullwright.shapes import moved_row, shape_maps
from hullwright.vectors import common_divisor, determinant, dot, inverted, transposed


def symmetries(P):
    """Return the ascending list of the maps of the vertices that make the faces of P its faces."""
    return sorted(shape_maps(P, P, False))


def is_affine_map(first, second, value):
    """Tell whether any value is the rows of an affine map from one polytope to another one."""
    return is_map(first.dimension(), value) and same(moved(first, value), second)


def is_map(d, value):
    """Tell whether a value is the rows of a map whose determinant is not 0."""
    if not isinstance(value, list) or len(value) != d + 1 or not all([is_vector(d + 1, row) for row in value]):
        return False
    return value[0][0] >= 1 and not any([row[0] for row in value[1:]]) and determinant(value) != 0


def affine_map(first, second):
    """Return the rows of any affine map from one polytope to another one, or None if there is none."""
    found = affine_images(first, second, True)
    return map_rows(first, second, found[0]) if found != [] else None


def affine_images(first, second, only_one):
    """Return for all affine maps, or for one of them, the tuples of the indexes of the images of the vertices."""
    many = len(first.vertices())
    if many != len(second.vertices()):
        return []
    chosen = independent_rows(first.vertices())
    order = chosen + [k for k in range(many) if k not in chosen]
    bonds = bonds_of(first)
    wanted = [[bonds[order[k]][at] for at in order[:k + 1]] for k in range(many)]
    others = bonds_of(second)
    found = matching_rows(many, lambda images: bonds_at_last(others, images) == wanted[len(images) - 1], only_one)
    return [in_place(order, images) for images in found]


def bonds_of(P):
    """Return a fraction for each two vertices, such that affine maps are the maps that keep these fractions."""
    # With rows x of the vertices, each beginning with 1, these are the entries of x * inverse(x' * x) * x'. If they
    # agree, then some map of vectors leads from rows to rows, and it leads from vertices to vertices as both begin so.
    # Those of a vertex with itself add up to d + 1, so polytopes of different dimensions do not agree.
    spots = with_common_first(P.vertices())
    columns = transposed(spots)
    inverse, divisor = inverted([tuple([dot(first, second) for second in columns]) for first in columns])
    images = [combined(spot, inverse) for spot in spots]
    return [[fraction(dot(image, spot), divisor) for spot in spots] for image in images]


def bonds_at_last(bonds, chosen):
    """Return the fractions for the last chosen vertex and each chosen one."""
    row = bonds[chosen[-1]]
    return [row[at] for at in chosen]


def map_rows(first, second, images):
    """Return the rows of the affine map from one polytope to another one with given images of the vertices."""
    starts = with_common_first(first.vertices())
    ends = with_common_first(second.vertices())
    chosen = independent_rows(starts)
    inverse, _ = inverted([starts[k] for k in chosen])
    targets = [ends[images[k]] for k in chosen]
    rows = [combined(row, targets) for row in inverse]
    common = common_divisor([entry for row in rows for entry in row])
    return [tuple([entry // common for entry in row]) for row in rows]


def affine_symmetries(P):
    """Return the ascending list of the symmetries that come from affine maps."""
    return sorted(affine_images(P, P, False))


def lattice_map(first, second):
    """Return the rows of any affine map that makes one lattice polytope the other, lattice points too, or None."""
    check_lattice(first)
    check_lattice(second)
    for images in affine_images(first, second, False):
        rows = map_rows(first, second, images)
        # The determinant is a multiple of the first entry, so that one is 1, too.
        if abs(determinant(rows)) == 1:
            return rows
    return None


def orbits(P):
    """Return for each dimension from -1 to d the list of the tuples of faces that symmetries make each other."""
    maps = symmetries(P)
    return [orbits_among(row, maps) for row in faces(P)]


def orbits_among(row, maps):
    """Return the ascending list of the orbits of the faces of one dimension under all symmetries."""
    found = []
    seen = {}
    for face in row:
        if face not in seen:
            orbit = tuple(sorted(set([moved_row(face, images) for images in maps])))
            found.append(orbit)
            for other in orbit:
                seen[other] = True
    return found
