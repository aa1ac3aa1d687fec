"""The errors of the package."""


class HullwrightError(ValueError):
    """The base class of all errors of the package."""


class BadNumber(HullwrightError):
    """A number cannot be used, for example a divisor 0."""


class BadText(HullwrightError):
    """A text is not the text of anything that is asked for."""


class BadInequality(HullwrightError):
    """A row of integers asks nothing of the coordinates."""


class Empty(HullwrightError):
    """There is no point."""


class Unbounded(HullwrightError):
    """The coordinates of the points are not bounded."""


class BadSize(HullwrightError):
    """A dimension or a number of points is out of its range."""


class Flat(HullwrightError):
    """All points lie in a common plane."""

    def __init__(self, inequality):
        self.inequality = inequality


class BadQuestion(HullwrightError):
    """A value is not a question about the list of points."""


class BadFace(HullwrightError):
    """A value is not a face that can be used here."""


class NotInside(HullwrightError):
    """The point 0 is not inside of the polytope."""


class BadMap(HullwrightError):
    """The rows of a map have the determinant 0."""


class NotLattice(HullwrightError):
    """A vertex of the polytope is not a lattice point."""


class NoSuch(HullwrightError):
    """What is to be removed is not there."""


class BadLine(HullwrightError):
    """A line of a console text is not a command."""

    def __init__(self, line):
        self.line = line


class NotPointed(HullwrightError):
    """The cone contains a vector together with its opposite."""
