"""Points and inequalities, tuples of integers without a common divisor."""

from math import lcm

from hullwright.digits import MOST_DIGITS, read_integer, write_integer
from hullwright.errors import BadInequality, BadText
from hullwright.forms import is_vector
from hullwright.numbers import fraction, read_fraction, write_fraction
from hullwright.vectors import common_divisor, dot, primitive


def is_point(d, value):
    """Tell whether any value is a point of the dimension d."""
    return is_vector(d + 1, value) and value[0] > 0 and common_divisor(value) == 1


def is_inequality(d, value):
    """Tell whether any value is an inequality of the dimension d."""
    return is_vector(d + 1, value) and any(value[1:]) and common_divisor(value) == 1


def made_point(coordinates):
    """Return the point with a list of fractions as its coordinates."""
    common = 1
    for _, b in coordinates:
        common = lcm(common, b)
    return (common,) + tuple([a * (common // b) for a, b in coordinates])


def coordinates(point):
    """Return the list of the coordinates of a point."""
    return [fraction(entry, point[0]) for entry in point[1:]]


def made_inequality(row):
    """Return the inequality that is a row divided by its greatest common divisor."""
    if not any(row[1:]):
        raise BadInequality("all entries but the first are 0")
    return primitive(row)


def value_at(inequality, point):
    """Return the value of an inequality at a point."""
    return fraction(dot(inequality, point), point[0])


def combined(weights, vectors):
    """Return the sum of the vectors times the weights."""
    total = [0] * len(vectors[0])
    for weight, vector in zip(weights, vectors):
        total = [a + weight * b for a, b in zip(total, vector)]
    return tuple(total)


def middle(points):
    """Return the point whose coordinates are the averages of those of the points."""
    return primitive(combined([1] * len(points), with_common_first(points)))


def with_common_first(points):
    """Return multiples of points, in order, that have the same first entry."""
    common = 1
    for point in points:
        common = lcm(common, point[0])
    return [tuple([entry * (common // point[0]) for entry in point]) for point in points]


def reversed_inequality(inequality):
    """Return the inequality with all signs turned around."""
    return tuple([-entry for entry in inequality])


def write_point(point):
    """Return the text of a point."""
    return " ".join([write_fraction(x) for x in coordinates(point)])


def write_inequality(inequality):
    """Return the text of an inequality."""
    return " ".join([write_integer(entry) for entry in inequality])


def read_point(d, text):
    """Return the point of the dimension d with a text."""
    words = text.split(" ")
    if len(words) != d:
        raise BadText("not the text of a point")
    return made_point([read_fraction(word) for word in words])


def read_inequality(d, text):
    """Return the inequality of the dimension d with a text."""
    found = tuple([read_integer(word, MOST_DIGITS) for word in text.split(" ")])
    if not is_inequality(d, found):
        raise BadText("not the text of an inequality")
    return found
