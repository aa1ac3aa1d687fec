"""The interface: each name stands in its module, with the arguments that the document lists."""

import doctest
import importlib
import inspect
import unittest
from pathlib import Path

INTERFACE = {
    "numbers": "fraction(a, b) plus(x, y) minus(x, y) times(x, y) over(x, y) sign(x) compare(x, y) floor(x)"
               " write_fraction(x) read_fraction(text)",
    "vectors": "dot(v, w) primitive(v) echelon(rows) rank(rows) determinant(rows) solve(rows, right) relation(rows)",
    "points": "is_point(d, value) is_inequality(d, value) made_point(coordinates) middle(points) coordinates(point)"
              " made_inequality(row) reversed_inequality(inequality) value_at(inequality, point)"
              " combined(weights, vectors) write_point(point) write_inequality(inequality) read_point(d, text)"
              " read_inequality(d, text)",
    "systems": "case_paper(d, rows) case_of(d, rows) check_case(d, rows, value) following_paper(d, rows, inequality)"
               " check_following(d, rows, inequality, value) satisfies(rows, point) needed_rows(d, rows)",
    "polytopes": "same(first, second) hull(d, points) common_part(d, rows)",
    "known": "cube(d) cross(d) simplex(d) cyclic(d, n)",
    "questions": "is_question(d, points, value) check(d, points, question, paper) answer_paper(d, points, question)",
    "faces": "faces(P) face_numbers(P) face_dimension(P, face) is_face(P, value) meet(P, first, second)"
             " join(P, first, second) facets_of(P, face) supporting(P, face) graph(P) flags(P) is_simple(P)"
             " is_simplicial(P) face_polytope(P, face)",
    "shapes": "shape_map(first, second) is_shape_map(first, second, value)",
    "making": "polar(P) moved(P, rows) half(P, inequality) meeting(P, Q) united(P, Q) summed(P, Q) scaled(P, factor)"
              " shifted(P, point) inverse_map(rows)",
    "dimensions": "product(P, Q) prism(P) pyramid(P) bipyramid(P) shadow(P, k) section(P, k, value)"
                  " corner_figure(P, index)",
    "cells": "cell_volume(d, points, cell) is_triangulation(d, points, value) triangulation(d, points)"
             " lower_cells(d, points, heights)",
    "volumes": "volume(P) centroid(P) facet_volumes(P, point) mixed_volumes(P, Q)",
    "lattice": "lattice_points(P) inner_lattice_points(P) count(P) inner_count(P) lattice_hull(P)"
               " lattice_width(P, direction)",
    "ehrhart": "ehrhart(P) ehrhart_value(coefficients, t) h_star(P) box_points(d, points, cell, open_facets)",
    "builder": "",
    "books": "write_polytope(P) report(P) read_polytope(text)",
    "console": "run_console(text)",
    "optimum": "form_value(form, point) greatest(P, form) best_face(P, form) optimum_paper(d, rows, form)"
               " check_optimum(d, rows, form, value)",
    "ways": "rising_way(P, form, start) is_rising_way(P, form, value) distance(P, first, second) diameter(P)",
    "symmetries": "symmetries(P) affine_symmetries(P) affine_map(first, second) lattice_map(first, second)"
                  " is_affine_map(first, second, value) orbits(P)",
    "cones": "cone_paper(d, generators, vector) normal_paper(P, face, form) check_cone(d, generators, vector, value)"
             " are_parallel(P, Q) normals(P, face) edge_vectors(P, index) tangent_facets(P, index)",
    "zonotopes": "zonotope(d, vectors) sign_rows(d, vectors) zone_volume(d, vectors) zone_count(d, vectors)"
                 " has_centre(P)",
    "circuits": "circuits(d, points) all_triangulations(d, points) flips(d, points, cells)",
    "regular": "height_paper(d, points, cells) check_heights(d, points, cells, value) is_fine(points, cells)"
               " counts_of_kinds(d, points)",
    "reflexive": "is_reflexive(P) is_unimodular(d, points, cell) is_empty_cell(d, points, cell)"
                 " facet_distance(P, k, point) lattice_size(P) boundary_points(P) face_lattice_points(P, face)",
    "fitting": "is_contained(P, Q) box_of(P) fit(P, Q) fit_system(P, Q) projected(d, rows, k) eroded(P, Q)",
    "basic": "pointing(d, generators) basic_vectors(d, generators) sum_gap(P) as_sum(d, generators, vector)"
             " is_normal(P)",
    "papers": "write_value(value) write_book(d, points, questions) read_value(text) read_book(text)"
              " book_faults(text)",
}

ERRORS = ["BadNumber", "BadText", "BadInequality", "Empty", "Unbounded", "BadSize", "Flat", "BadQuestion", "BadFace",
          "NotInside", "BadMap", "NotLattice", "NoSuch", "BadLine", "NotPointed"]

METHODS = {
    ("polytopes", "Polytope"): "dimension() vertices() facets() incidence() contains(point) is_inside(point)",
    ("builder", "Builder"): "add(point) remove(point) cut(inequality) uncut(inequality) points() inequalities() state()"
                            " polytope() undo() volume()",
}


def entries_of(listed):
    """Yield the names and the lists of arguments."""
    for entry in listed.replace(") ", ")\n").splitlines():
        name, arguments = entry[:-1].split("(")
        yield name, [argument for argument in arguments.split(", ") if argument]


class InterfaceTest(unittest.TestCase):
    def assert_listed(self, function, module, arguments):
        self.assertTrue(inspect.isfunction(function))
        self.assertEqual(function.__module__, module.__name__)
        self.assertEqual(list(inspect.signature(function).parameters), arguments)

    def test_functions(self):
        for module_name, listed in INTERFACE.items():
            module = importlib.import_module("hullwright." + module_name)
            for name, arguments in entries_of(listed):
                self.assert_listed(getattr(module, name), module, arguments)

    def test_methods(self):
        for (module_name, class_name), listed in METHODS.items():
            module = importlib.import_module("hullwright." + module_name)
            for name, arguments in entries_of(listed):
                self.assert_listed(vars(getattr(module, class_name))[name], module, ["self"] + arguments)

    def test_errors(self):
        from hullwright import errors
        self.assertEqual(errors.HullwrightError.__bases__, (ValueError,))
        for name in ERRORS:
            found = getattr(errors, name)
            self.assertEqual(found.__bases__, (errors.HullwrightError,))
            self.assertEqual(found.__module__, "hullwright.errors")

    def test_examples_of_the_document(self):
        examples = Path(__file__).resolve().parent / "examples.txt"
        failed, tried = doctest.testfile(str(examples), module_relative=False)
        self.assertEqual((failed, tried), (0, 96))

    def test_builder_begins_with_a_dimension(self):
        from hullwright.builder import Builder
        self.assertEqual(list(inspect.signature(Builder).parameters), ["d"])
