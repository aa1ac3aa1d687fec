"""Texts of polytopes and reports about them."""

from hullwright.digits import write_integer
from hullwright.ehrhart import ehrhart, is_lattice_polytope
from hullwright.errors import BadText, Flat
from hullwright.faces import face_numbers
from hullwright.lattice import count
from hullwright.numbers import write_fraction
from hullwright.points import read_inequality, read_point, write_inequality, write_point
from hullwright.polytopes import hull
from hullwright.volumes import centroid, volume

HEADS = {"polytope 1": 1, "polytope 2": 2, "polytope 3": 3, "polytope 4": 4}


def write_polytope(P):
    """Return the text of a polytope."""
    lines = [f"polytope {P.dimension()}"]
    lines += ["vertex " + write_point(vertex) for vertex in P.vertices()]
    lines += ["facet " + write_inequality(facet) for facet in P.facets()]
    return as_text(lines)


def as_text(lines):
    """Return the text of some lines, each with a line feed."""
    return "".join([line + "\n" for line in lines])


def read_polytope(text):
    """Return the polytope with a text."""
    lines = text.split("\n")
    if lines[0] not in HEADS:
        raise BadText("the text does not begin with a dimension")
    d = HEADS[lines[0]]
    vertices = [read_point(d, rest) for rest in rests_of(lines, "vertex ")]
    # The facets are read only because they must have a form that can be read.
    for rest in rests_of(lines, "facet "):
        read_inequality(d, rest)
    P = hull_of_vertices(d, vertices)
    if write_polytope(P) != text:
        raise BadText("not the text of the hull of its vertices")
    return P


def rests_of(lines, start):
    """Return what stands behind a start in those lines that begin with it."""
    return [line[len(start):] for line in lines if line.startswith(start)]


def hull_of_vertices(d, vertices):
    """Return the hull of points that are read."""
    if vertices == []:
        raise BadText("there are no vertices")
    try:
        return hull(d, vertices)
    except Flat:
        raise BadText("the vertices lie in a common plane")


def report(P):
    """Return the report of a polytope."""
    lines = [
        f"dimension {P.dimension()}",
        "faces " + " ".join([write_integer(number) for number in face_numbers(P)]),
        "volume " + write_fraction(volume(P)),
        "centroid " + write_point(centroid(P)),
        "lattice " + write_integer(count(P)),
    ]
    if is_lattice_polytope(P):
        lines.append("ehrhart " + " ".join([write_fraction(x) for x in ehrhart(P)]))
    return as_text(lines)
