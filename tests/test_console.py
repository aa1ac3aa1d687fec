"""Point 11.3: the console."""

import unittest

from hullwright.books import report, write_polytope
from hullwright.builder import Builder
from hullwright.console import run_console
from hullwright.errors import BadLine, NoSuch
from hullwright.known import cube
from hullwright.points import write_inequality, write_point
from tests.support import some_inequality, some_point, source_of

SQUARE = "dimension 2\npoint 0 0\npoint 0 1\npoint 1 0\npoint 1 1\n"


def told(builder, word, entry):
    """Return what the console has to report of a command."""
    if word == "undo":
        return "undone\n" if builder.undo() else "nothing\n"
    if word in ("point", "cut"):
        return "added\n" if (builder.add if word == "point" else builder.cut)(entry) else "same\n"
    if word in ("drop", "uncut"):
        try:
            (builder.remove if word == "drop" else builder.uncut)(entry)
            return "dropped\n"
        except NoSuch:
            return "missing\n"
    if word == "state" or builder.state() != "polytope":
        return builder.state() + "\n"
    P = builder.polytope()
    if word == "inside":
        return "yes\n" if P.contains(entry) else "no\n"
    return write_polytope(P) if word == "show" else report(P)


class ConsoleTest(unittest.TestCase):
    def assert_bad_line(self, text, line):
        with self.assertRaises(BadLine) as caught:
            run_console(text)
        self.assertEqual(caught.exception.line, line, text)

    def test_example(self):
        text = "dimension 1\npoint 0\npoint 1/2\npoint 0\nstate\ninside 1/3\n"
        self.assertEqual(run_console(text), "added\nadded\nsame\npolytope\nyes\n")

    def test_all_commands(self):
        text = (SQUARE + "point 1/2 1/2\nstate\ncut 1 -1 0\ncut 1 -1 0\ncut 3 -2 -2\ninside 3/4 3/4\ninside 1 1\n"
                "inside 2 2\nuncut 3 -2 -2\nuncut 3 -2 -2\ninside 1 1\ndrop 1 1\ndrop 1 1\ninside 1 1\nundo\n"
                "inside 1 1\n")
        self.assertEqual(run_console(text), "added\n" * 5 + "polytope\nadded\nsame\nadded\nyes\nno\nno\ndropped\n"
                         "missing\nyes\ndropped\nmissing\nno\nundone\nyes\n")

    def test_show_and_report(self):
        self.assertEqual(run_console("dimension 1\npoint 0\npoint 2\nshow\nreport\n"),
                         "added\nadded\npolytope 1\nvertex 0\nvertex 2\nfacet 0 1\nfacet 2 -1\n"
                         "dimension 1\nfaces 2 1\nvolume 2\ncentroid 1\nlattice 3\nehrhart 1 2\n")
        made = "".join("point " + write_point(vertex) + "\n" for vertex in cube(4).vertices())
        self.assertEqual(run_console("dimension 4\n" + made + "show\nreport"),
                         "added\n" * 16 + write_polytope(cube(4)) + report(cube(4)))

    def test_states(self):
        for word in ("state", "show", "report", "inside 0 0"):
            self.assertEqual(run_console("dimension 2\n" + word), "empty\n")
            self.assertEqual(run_console("dimension 2\npoint 0 0\n" + word), "added\nflat\n")
            self.assertEqual(run_console("dimension 2\npoint 0 0\ncut -1 1 0\n" + word), "added\nadded\nempty\n")
            self.assertEqual(run_console(SQUARE + "cut -1 1 0\n" + word), "added\n" * 5 + "flat\n")
            self.assertEqual(run_console(SQUARE + "cut -2 1 0\n" + word), "added\n" * 5 + "empty\n")

    def test_undo(self):
        self.assertEqual(run_console("dimension 1\nundo\npoint 1\npoint 1\nundo\nundo\nstate\n"),
                         "nothing\nadded\nsame\nundone\nnothing\nempty\n")
        self.assertEqual(run_console("dimension 1\npoint 1\npoint 2\ndrop 1\nundo\ncut 0 1\nuncut 0 1\nundo\nundo\n"
                                     "uncut 0 1\nundo\nundo\nundo\n"),
                         "added\nadded\ndropped\nundone\nadded\ndropped\nundone\nundone\nmissing\nundone\nundone\n"
                         "nothing\n")

    def test_later_dimension(self):
        self.assertEqual(run_console("dimension 1\npoint 1\npoint 2\ndimension 3\nstate\nundo\npoint 1 2 3\n"
                                     "dimension 1\nundo\nstate\npoint 1\n"),
                         "added\nadded\nempty\nnothing\nadded\nnothing\nempty\nadded\n")
        self.assert_bad_line("dimension 1\npoint 1\ndimension 2\npoint 1\n", 4)

    def test_empty_lines_and_remarks(self):
        for text in ("", "\n", "\n\n\n", "# nothing", "#\n#x\n\n", "dimension 3", "dimension 3\n", "\n#\ndimension 4\n\n"):
            self.assertEqual(run_console(text), "")
        self.assertEqual(run_console("\n# a remark\n#point\n\ndimension 1\n\n#\nstate\n\n"), "empty\n")
        self.assertEqual(run_console("dimension 1\nstate"), "empty\n")
        self.assertEqual(run_console("dimension 1\nstate\n#"), "empty\n")
        # All lines are counted.
        self.assert_bad_line("\n#\n\ndimension 1\n\n# x\nstat\n", 7)
        self.assert_bad_line("dimension 1\n\n\nstate \nstate \n", 4)

    def test_first_command(self):
        for line in ("point 1", "state", "undo", "show", "report", "drop 1", "cut 0 1", "uncut 0 1", "inside 1", "x",
                     " ", "dimension", "dimension 0", "dimension 5", "dimension 1 ", "Dimension 1", " dimension 1"):
            self.assert_bad_line(line, 1)
            self.assert_bad_line("#\n" + line + "\ndimension 1\n", 2)

    def test_bad_lines(self):
        long_one = "1" * 61
        wrong = [
            " ", "  ", "\t", "\r", " #", "state ", " state", "state state", "State", "states", "stat", "state\r", "undo 1",
            "undo ", "show 1", "show ", "report x", "report ", "point", "point ", "point 1", "point 1 2 3", "point  1 2",
            "point 1  2", "point 1 2 ", "point 1,2", "point 2/4 1", "point 1/1 1", "point -0 1", "point 01 1", "point +1 1",
            "point 1/0 1", "point 1/-2 1", "point x 1", "point 1.5 1", "points 1 2", "drop", "drop 1", "drop 1 2 3",
            "drop 1  2", "drop 2/4 1", "cut", "cut ", "cut 1 2", "cut 1 2 3 4", "cut 1 0 0", "cut 2 4 6", "cut 1/2 1 1",
            "cut  1 2 3", "cut 1 2 3 ", "cut 0 0 0", "uncut 1 2", "uncut", "uncut 1 0 0", "uncut 2 4 6", "inside",
            "inside 1", "inside 1 2 3", "inside 1 2 ", "inside x y", "dimension", "dimension ", "dimension 0",
            "dimension 5", "dimension 01", "dimension 2 2", "dimension  2", "dimension -1", "dimension 1/1", "dimension x",
            "dimension2", "point " + long_one + " 1", "point 1/" + long_one + " 1", "cut " + long_one + " 1 1",
            "inside 1 " + long_one, "drop 1 " + long_one, "uncut 1 1 " + long_one, "add 1 2", "volume", "remove 1 2",
        ]
        for line in wrong:
            self.assert_bad_line("dimension 2\n" + line, 2)
            self.assert_bad_line(SQUARE + "\n" + line + "\nstate\n", 7)
            self.assert_bad_line(SQUARE + line + "\n" + line + "\n", 6)

    def test_bad_arguments_also_without_a_polytope(self):
        # The state alone is reported only for commands.
        self.assert_bad_line("dimension 1\nstate\ninside 1 2\n", 3)
        self.assert_bad_line("dimension 1\nstate\nshow x\n", 3)

    def test_sixty_digits(self):
        most = "9" * 60
        self.assertEqual(run_console(f"dimension 1\npoint {most}\npoint 1/{most}\ncut {most} -1\ninside {most}\n"),
                         "added\nadded\nadded\nyes\n")

    def test_random_sessions(self):
        source = source_of(221)
        for d in range(1, 5):
            for _ in range(4):
                lines, expected, builder = [f"dimension {d}"], [], Builder(d)
                for _ in range(30):
                    word = source.choice(["point"] * 6 + ["drop", "cut", "cut", "uncut", "undo", "state", "inside", "show",
                                                          "report"])
                    entry, text = None, ""
                    if word in ("point", "drop", "inside"):
                        entry = some_point(source, d, 2)
                        text = " " + write_point(entry)
                    elif word in ("cut", "uncut"):
                        entry = some_inequality(source, d, 2)
                        if word == "uncut" and builder.inequalities():
                            entry = source.choice(builder.inequalities())
                        text = " " + write_inequality(entry)
                    lines.append(word + text)
                    expected.append(told(builder, word, entry))
                self.assertEqual(run_console("\n".join(lines) + source.choice(["", "\n"])), "".join(expected))
