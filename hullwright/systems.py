"""Systems of inequalities: their case, what follows from them, and papers for both."""

from hullwright.forms import is_integer, is_vector, is_weights, is_worded
from hullwright.points import combined, is_point
from hullwright.vectors import dot, primitive, rank, relation, transposed
from hullwright.weighing import weighing


def case_paper(d, rows):
    """Return any right case paper for a system."""
    found = weighing(rows, (-1,) + (0,) * d)
    if found[0] == "yes":
        return ("empty", found[1])
    point = primitive(found[1])
    slopes = slopes_of(rows)
    direction = relation(transposed(slopes))
    if direction is not None:
        return ("unbounded", point, direction)
    # Weights for minus the sum of all slopes, each raised by t, are loads that are all greater than 0.
    found = weighing(slopes, combined([-1] * len(slopes), slopes))
    if found[0] == "no":
        return ("unbounded", point, found[1])
    loads = tuple([weight + found[2] for weight in found[1]])
    # The further entry 1 asks that the sum of the weights is not 0.
    found = weighing([row + (1,) for row in rows], (0,) * (d + 1) + (1,))
    if found[0] == "yes":
        return ("flat", point, found[1], loads)
    return ("full", primitive(found[1][:-1]), loads)


def slopes_of(rows):
    """Return the rows of a system without their first entries."""
    return [row[1:] for row in rows]


def case_of(d, rows):
    """Return the word of the case of a system."""
    return case_paper(d, rows)[0]


def check_case(d, rows, value):
    """Tell whether any value is a right case paper for a system."""
    if is_worded(value, "empty", 2):
        return shows_empty(rows, value[1])
    if is_worded(value, "unbounded", 3):
        return is_solution(d, rows, value[1]) and is_way_out(d, rows, value[2])
    if is_worded(value, "flat", 4):
        return is_solution(d, rows, value[1]) and shows_flat(rows, value[2]) and shows_bounds(d, rows, value[3])
    if is_worded(value, "full", 3):
        return is_inner_solution(d, rows, value[1]) and shows_bounds(d, rows, value[2])
    return False


def shows_empty(rows, value):
    """Tell whether a value is weights that lead to a row that never holds."""
    if not is_weights(len(rows), value):
        return False
    total = combined(value, rows)
    return total[0] < 0 and not any(total[1:])


def is_way_out(d, rows, value):
    """Tell whether a value is a direction, not of zeros, in which no row decreases."""
    if not is_vector(d, value) or not any(value):
        return False
    return all([dot(slope, value) >= 0 for slope in slopes_of(rows)])


def shows_flat(rows, value):
    """Tell whether a value is weights, not all 0, with which the rows add up to zeros."""
    return is_weights(len(rows), value) and any(value) and not any(combined(value, rows))


def shows_bounds(d, rows, value):
    """Tell whether a value is loads for the rows, and the slopes have the full rank."""
    if not is_weights(len(rows), value) or 0 in value:
        return False
    return not any(combined(value, rows)[1:]) and rank(slopes_of(rows)) == d


def is_solution(d, rows, value):
    """Tell whether a value is a point that satisfies a system."""
    return is_point(d, value) and satisfies(rows, value)


def is_inner_solution(d, rows, value):
    """Tell whether a value is a point at which all rows are strict."""
    return is_point(d, value) and all([dot(row, value) > 0 for row in rows])


def following_paper(d, rows, inequality):
    """Return any right paper that tells whether an inequality follows from a system."""
    found = weighing(rows + [(1,) + (0,) * d], inequality)
    if found[0] == "yes":
        return ("yes", found[1][:-1], found[2], found[1][-1])
    other = found[1]
    if other[0] > 0:
        return ("no", other)
    # The inequality only falls along a direction, so a way is gone from some point that satisfies the system.
    case = weighing(rows, (-1,) + (0,) * d)
    if case[0] == "yes":
        return ("none", case[1])
    start = case[1]
    steps = max(0, dot(inequality, start)) // -dot(inequality, other) + 1
    return ("no", primitive(combined((1, steps), [start, other])))


def check_following(d, rows, inequality, value):
    """Tell whether any value is a right following paper for a system and an inequality."""
    if is_worded(value, "yes", 4):
        return shows_following(rows, inequality, value)
    if is_worded(value, "none", 2):
        return shows_empty(rows, value[1])
    if is_worded(value, "no", 2):
        return is_solution(d, rows, value[1]) and dot(inequality, value[1]) < 0
    return False


def shows_following(rows, inequality, value):
    """Tell whether a multiple of the inequality is a sum of the rows, with a number added."""
    _, weights, multiple, added = value
    if not is_weights(len(rows), weights) or not is_integer(multiple) or not is_integer(added):
        return False
    if multiple < 1 or added < 0:
        return False
    total = combined(weights, rows)
    return (total[0] + added,) + total[1:] == tuple([multiple * entry for entry in inequality])


def satisfies(rows, point):
    """Tell whether a point satisfies a system."""
    return all([dot(row, point) >= 0 for row in rows])


def needed_rows(d, rows):
    """Return the different rows of a full system that do not follow from the others."""
    different = sorted(set(rows))
    return [row for row in different if is_needed(d, different, row)]


def is_needed(d, rows, row):
    """Tell whether a row does not follow from the others, which have a common point."""
    others = [other for other in rows if other != row]
    return following_paper(d, others, row)[0] == "no"
