"""Greatest values of forms on polytopes and on the solutions of systems."""

from hullwright.forms import is_integer, is_weights, is_worded
from hullwright.numbers import fraction, greatest_of
from hullwright.points import combined
from hullwright.systems import is_solution, is_way_out, shows_empty
from hullwright.vectors import dot, primitive, unit
from hullwright.weighing import weighing


def form_value(form, point):
    """Return the value of a form at a point."""
    return fraction(dot(form, point[1:]), point[0])


def greatest(P, form):
    """Return the greatest value of a form on a polytope."""
    return greatest_of([form_value(form, vertex) for vertex in P.vertices()])


def best_face(P, form):
    """Return the face of all vertices at which a form has its greatest value."""
    best = greatest(P, form)
    return tuple([k for k, vertex in enumerate(P.vertices()) if form_value(form, vertex) == best])


def bound_row(form, value):
    """Return the row that holds where a form is at most a fraction."""
    return (value[0],) + tuple([-value[1] * entry for entry in form])


def optimum_paper(d, rows, form):
    """Return any right optimum paper for a system and a form."""
    found = weighing(rows, bound_row((0,) * d, (-1, 1)))
    if found[0] == "yes":
        return ("empty", found[1])
    top = rows + [unit(d + 1, 0)]
    # A weighing that fails gives a point with a greater value. It depends on which weights it tried in the end,
    # of which there are finitely many, so some weighing does not fail, or gives a direction.
    while found[0] == "no" and found[1][0] > 0:
        point = primitive(found[1])
        found = weighing(top, bound_row(form, form_value(form, point)))
    if found[0] == "no":
        return ("unbounded", point, found[1][1:])
    # The row at the top has the weight 0, because the point has the value itself.
    return ("best", point, found[1][:-1], found[2])


def check_optimum(d, rows, form, value):
    """Tell whether any value is a right optimum paper for a system and a form."""
    if is_worded(value, "empty", 2):
        return shows_empty(rows, value[1])
    if is_worded(value, "unbounded", 3):
        return is_solution(d, rows, value[1]) and is_way_out(d, rows, value[2]) and dot(form, value[2]) > 0
    if is_worded(value, "best", 4):
        return is_solution(d, rows, value[1]) and shows_best(rows, form, value)
    return False


def shows_best(rows, form, value):
    """Tell whether weights show that the value of a form is nowhere greater than at a point."""
    _, point, weights, times = value
    if not is_weights(len(rows), weights) or not is_integer(times) or times < 1:
        return False
    bound = bound_row(form, form_value(form, point))
    return combined(weights, rows) == tuple([times * entry for entry in bound])
