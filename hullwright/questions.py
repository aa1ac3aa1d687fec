"""Questions about lists of points, and papers that answer them."""

from hullwright.errors import BadQuestion
from hullwright.forms import is_fraction, is_index, is_indexes, is_weights, is_worded
from hullwright.numbers import compare
from hullwright.points import combined, is_inequality, is_point, value_at
from hullwright.vectors import dot, primitive
from hullwright.weighing import weighing


def is_question(d, points, value):
    """Tell whether any value is a question about a list of points."""
    if is_worded(value, "inside", 2):
        return is_point(d, value[1])
    if is_worded(value, "corner", 2):
        return is_index(len(points), value[1])
    if is_worded(value, "face", 2):
        return is_indexes(len(points), value[1]) and 0 < len(value[1]) < len(points)
    if is_worded(value, "meets", 2):
        return is_point_row(d, value[1])
    if is_worded(value, "within", 3):
        return is_inequality(d, value[1]) and is_fraction(value[2])
    return False


def is_point_row(d, value):
    """Tell whether a value is a tuple of at least one point."""
    return isinstance(value, tuple) and len(value) > 0 and all([is_point(d, entry) for entry in value])


def check(d, points, question, paper):
    """Tell whether any value is a right paper for a question."""
    if not is_question(d, points, question):
        raise BadQuestion("not a question about the points")
    if not is_worded(paper, "yes", 2) and not is_worded(paper, "no", 2):
        return False
    checking = CHECKS[question[0]]
    return checking(d, points, question, paper[0] == "yes", paper[1])


def answer_paper(d, points, question):
    """Return any right paper for a question."""
    if not is_question(d, points, question):
        raise BadQuestion("not a question about the points")
    answering = ANSWERS[question[0]]
    return answering(points, question)


def check_inside(d, points, question, answer, data):
    """Tell whether the data shows the answer to a question of the kind inside."""
    if answer:
        return leads_to(points, data, question[1])
    return parts_from(d, points, data, question[1])


def leads_to(points, value, target):
    """Tell whether a value is weights, not all 0, with which the points add up to a multiple of the target."""
    return is_weights(len(points), value) and any(value) and primitive(combined(value, points)) == target


def parts_from(d, points, value, target):
    """Tell whether a value is an inequality that holds at all points and not at the target."""
    return is_inequality(d, value) and dot(value, target) < 0 and all([dot(value, point) >= 0 for point in points])


def check_corner(d, points, question, answer, data):
    """Tell whether the data shows the answer to a question of the kind corner."""
    at = question[1]
    if not answer:
        return leads_to(points, data, points[at]) and data[at] == 0
    if len(points) == 1 and is_nothing(data):
        return True
    return parts_from(d, without(points, at), data, points[at])


def is_nothing(value):
    """Tell whether a value is the tuple without items."""
    return isinstance(value, tuple) and len(value) == 0


def without(points, at):
    """Return the points without the one with an index."""
    return points[:at] + points[at + 1:]


def check_face(d, points, question, answer, data):
    """Tell whether the data shows the answer to a question of the kind face."""
    if answer:
        return is_inequality(d, data) and is_tight_exactly(points, data, question[1])
    if not is_weights_pair(len(points), len(points), data):
        return False
    outside = [k for k in range(len(points)) if k not in question[1]]
    if any([data[0][k] != 0 for k in outside]) or not any([data[1][k] != 0 for k in outside]):
        return False
    return combined(data[0], points) == combined(data[1], points)


def is_tight_exactly(points, inequality, indexes):
    """Tell whether an inequality holds at all points and is tight at those with these indexes only."""
    for k, point in enumerate(points):
        height = dot(inequality, point)
        if height < 0 or (height == 0) != (k in indexes):
            return False
    return True


def is_weights_pair(length, other_length, value):
    """Tell whether a value is a pair of weights for two lists of these lengths."""
    if not isinstance(value, tuple) or len(value) != 2:
        return False
    return is_weights(length, value[0]) and is_weights(other_length, value[1])


def check_meets(d, points, question, answer, data):
    """Tell whether the data shows the answer to a question of the kind meets."""
    others = list(question[1])
    if answer:
        if not is_weights_pair(len(points), len(others), data):
            return False
        return any(data[0] + data[1]) and combined(data[0], points) == combined(data[1], others)
    if not is_inequality(d, data) or not all([dot(data, point) >= 0 for point in points]):
        return False
    return all([dot(data, other) < 0 for other in others])


def check_within(d, points, question, answer, data):
    """Tell whether the data shows the answer to a question of the kind within."""
    greater = greater_ones(points, question)
    if answer:
        return is_nothing(data) and greater == []
    return is_index(len(points), data) and data in greater


def greater_ones(points, question):
    """Return the indexes of the points at which the value is greater than the bound."""
    _, inequality, bound = question
    return [k for k, point in enumerate(points) if compare(value_at(inequality, point), bound) > 0]


def answer_inside(points, question):
    """Return a right paper for a question of the kind inside."""
    found = weighing(points, question[1])
    return (found[0], found[1])


def answer_corner(points, question):
    """Return a right paper for a question of the kind corner."""
    at = question[1]
    if len(points) == 1:
        return ("yes", ())
    found = weighing(without(points, at), points[at])
    if found[0] == "no":
        return ("yes", found[1])
    return ("no", found[1][:at] + (0,) + found[1][at:])


def answer_face(points, question):
    """Return a right paper for a question of the kind face."""
    indexes = question[1]
    # The last entry asks that the points outside get some weight; those of the face may be taken away, too.
    rows = [point + ((0,) if k in indexes else (1,)) for k, point in enumerate(points)]
    taken = [tuple([-entry for entry in rows[k]]) for k in indexes]
    found = weighing(rows + taken, (0,) * len(points[0]) + (1,))
    if found[0] == "no":
        return ("yes", primitive(found[1][:-1]))
    first = [0] * len(points)
    for k, weight in zip(indexes, found[1][len(points):]):
        first[k] = weight
    return ("no", (tuple(first), found[1][:len(points)]))


def answer_meets(points, question):
    """Return a right paper for a question of the kind meets."""
    # The last entry asks that the weights of the others are not all 0.
    rows = [point + (0,) for point in points]
    others = [tuple([-entry for entry in other]) + (1,) for other in question[1]]
    found = weighing(rows + others, (0,) * len(points[0]) + (1,))
    if found[0] == "no":
        return ("no", primitive(found[1][:-1]))
    return ("yes", (found[1][:len(points)], found[1][len(points):]))


def answer_within(points, question):
    """Return a right paper for a question of the kind within."""
    greater = greater_ones(points, question)
    if greater == []:
        return ("yes", ())
    return ("no", greater[0])


CHECKS = {
    "inside": check_inside,
    "corner": check_corner,
    "face": check_face,
    "meets": check_meets,
    "within": check_within,
}

ANSWERS = {
    "inside": answer_inside,
    "corner": answer_corner,
    "face": answer_face,
    "meets": answer_meets,
    "within": answer_within,
}
