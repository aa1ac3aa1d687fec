"""A polytope that is changed step by step."""

from hullwright.errors import Empty, Flat, NoSuch
from hullwright.points import reversed_inequality
from hullwright.polytopes import common_part, hull
from hullwright.vectors import dot, unit
from hullwright.volumes import volume
from hullwright.weighing import weighing


class Builder:
    """A list of points and a list of inequalities, and the polytope of both."""

    def __init__(self, d):
        self._dimension = d
        self._points = []
        self._inequalities = []
        self._earlier = []

    def add(self, point):
        """Add a point at the end, and tell whether it is new."""
        if point in self._points:
            return False
        self._change(self._points + [point], self._inequalities)
        return True

    def remove(self, point):
        """Remove a point."""
        if point not in self._points:
            raise NoSuch("the point is not in the list")
        self._change([other for other in self._points if other != point], self._inequalities)

    def cut(self, inequality):
        """Add an inequality at the end, and tell whether it is new."""
        if inequality in self._inequalities:
            return False
        self._change(self._points, self._inequalities + [inequality])
        return True

    def uncut(self, inequality):
        """Remove an inequality."""
        if inequality not in self._inequalities:
            raise NoSuch("the inequality is not in the list")
        self._change(self._points, [other for other in self._inequalities if other != inequality])

    def _change(self, points, inequalities):
        """Take two new lists, and keep the ones before them for undo."""
        self._earlier.append((self._points, self._inequalities))
        self._points = points
        self._inequalities = inequalities

    def undo(self):
        """Take the last change back, and tell whether there was one."""
        if self._earlier == []:
            return False
        self._points, self._inequalities = self._earlier.pop()
        return True

    def points(self):
        """Return the list of the points."""
        return list(self._points)

    def inequalities(self):
        """Return the list of the inequalities."""
        return list(self._inequalities)

    def state(self):
        """Return "empty", "flat" or "polytope"."""
        try:
            self.polytope()
        except Empty:
            return "empty"
        except Flat:
            return "flat"
        return "polytope"

    def polytope(self):
        """Return the polytope of the points of the hull at which all inequalities hold."""
        if self._points == []:
            raise Empty("there are no points")
        return part_of_hull(self._dimension, self._points, self._inequalities)

    def volume(self):
        """Return the volume of the polytope, 0 if there is none."""
        try:
            P = self.polytope()
        except (Empty, Flat):
            return (0, 1)
        return volume(P)


def part_of_hull(d, points, rows):
    """Return the polytope of the points of the hull of a list at which all rows hold."""
    try:
        P = hull(d, points)
    except Flat:
        # A flat hull may have no points left, too, and this is not the same.
        if not some_combination_holds(points, rows):
            raise Empty("no point of the hull satisfies the inequalities")
        raise
    return common_part(d, P.facets() + rows)


def some_combination_holds(points, rows):
    """Tell whether all rows hold at some combination of the points."""
    many = len(rows)
    # A combination has a value for each row, from which something may be taken away to come to 0.
    values = [tuple([dot(row, point) for row in rows]) + (1,) for point in points]
    less = [reversed_inequality(unit(many + 1, k)) for k in range(many)]
    return weighing(values + less, unit(many + 1, many))[0] == "yes"
