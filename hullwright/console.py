"""A console: a text with one command in each line, for a builder."""

from hullwright.books import as_text, report, write_polytope
from hullwright.builder import Builder
from hullwright.errors import BadLine, BadText, NoSuch
from hullwright.points import read_inequality, read_point

DIMENSIONS = {"1": 1, "2": 2, "3": 3, "4": 4}


def run_console(text):
    """Execute a text with one command in each line, and return its report."""
    console = Console()
    told = []
    for number, line in enumerate(text.split("\n"), start=1):
        if line != "" and not line.startswith("#"):
            try:
                told.append(console.run(line))
            except BadText:
                raise BadLine(number)
    return "".join(told)


class Console:
    """A builder that lines of text work on."""

    def __init__(self):
        self._dimension = 0
        self._builder = None

    def run(self, line):
        """Execute a command, and return its report; raise BadText if the line is not a command."""
        word, blank, rest = line.partition(" ")
        if word == "dimension":
            self._begin(rest)
            return ""
        if self._builder is None:
            raise BadText("the first command is not a dimension")
        if blank == "":
            return self._run_alone(word)
        if word in WITH_POINT:
            action = WITH_POINT[word]
            return action(self._builder, read_point(self._dimension, rest))
        if word in WITH_INEQUALITY:
            action = WITH_INEQUALITY[word]
            return action(self._builder, read_inequality(self._dimension, rest))
        raise BadText("not a command with something behind it")

    def _begin(self, rest):
        """Begin with a new builder."""
        if rest not in DIMENSIONS:
            raise BadText("not a dimension")
        self._dimension = DIMENSIONS[rest]
        self._builder = Builder(self._dimension)

    def _run_alone(self, word):
        """Execute a command that has nothing behind its word."""
        if word not in ALONE:
            raise BadText("not a command of one word")
        action = ALONE[word]
        return action(self._builder)


def run_point(builder, point):
    """Add a point, and report whether it is new."""
    return "added\n" if builder.add(point) else "same\n"


def run_drop(builder, point):
    """Remove a point, and report whether it was there."""
    try:
        builder.remove(point)
    except NoSuch:
        return "missing\n"
    return "dropped\n"


def run_cut(builder, inequality):
    """Add an inequality, and report whether it is new."""
    return "added\n" if builder.cut(inequality) else "same\n"


def run_uncut(builder, inequality):
    """Remove an inequality, and report whether it was there."""
    try:
        builder.uncut(inequality)
    except NoSuch:
        return "missing\n"
    return "dropped\n"


def run_inside(builder, point):
    """Report whether a point is in the polytope."""
    if builder.state() != "polytope":
        return run_state(builder)
    return "yes\n" if builder.polytope().contains(point) else "no\n"


def run_undo(builder):
    """Take the last change back, and report whether there was one."""
    return "undone\n" if builder.undo() else "nothing\n"


def run_state(builder):
    """Report the state."""
    return as_text([builder.state()])


def run_show(builder):
    """Report the text of the polytope."""
    if builder.state() != "polytope":
        return run_state(builder)
    return write_polytope(builder.polytope())


def run_report(builder):
    """Report the report of the polytope."""
    if builder.state() != "polytope":
        return run_state(builder)
    return report(builder.polytope())


WITH_POINT = {"point": run_point, "drop": run_drop, "inside": run_inside}
WITH_INEQUALITY = {"cut": run_cut, "uncut": run_uncut}
ALONE = {"undo": run_undo, "state": run_state, "show": run_show, "report": run_report}
