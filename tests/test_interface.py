"""The interface: each name stands in its module, with the arguments that the document lists."""

import importlib
import inspect
import unittest

INTERFACE = {
    "numbers": "fraction(a, b) plus(x, y) minus(x, y) times(x, y) over(x, y) sign(x) compare(x, y) floor(x)"
               " write_fraction(x) read_fraction(text)",
    "vectors": "dot(v, w) primitive(v) echelon(rows) rank(rows) determinant(rows) solve(rows, right) relation(rows)",
    "points": "is_point(d, value) is_inequality(d, value) made_point(coordinates) middle(points) coordinates(point)"
              " made_inequality(row) reversed_inequality(inequality) value_at(inequality, point)"
              " combined(weights, vectors) write_point(point) write_inequality(inequality) read_point(d, text)"
              " read_inequality(d, text)",
    "systems": "case_paper(d, rows) case_of(d, rows) check_case(d, rows, value) following_paper(d, rows, inequality)"
               " check_following(d, rows, inequality, value) satisfies(rows, point) needed_rows(d, rows)",
}


class InterfaceTest(unittest.TestCase):
    def test_functions(self):
        for module_name, listed in INTERFACE.items():
            module = importlib.import_module("hullwright." + module_name)
            for entry in listed.replace(") ", ")\n").split("\n"):
                name, arguments = entry[:-1].split("(")
                function = getattr(module, name)
                self.assertTrue(inspect.isfunction(function), name)
                self.assertEqual(function.__module__, module.__name__)
                self.assertEqual(list(inspect.signature(function).parameters), arguments.split(", "), name)
