"""Point 0.2: the general rules, for all functions that have landed."""

import copy
import unittest

from hullwright import (
    basic, books, builder, cells, circuits, cones, console, dimensions, ehrhart, faces, fitting, known, lattice, making,
    numbers, optimum, papers, points, polytopes, questions, reflexive, regular, shapes, symmetries, systems, vectors,
    volumes, ways, zonotopes)
from tests.samples import lists_of
from tests.support import divided, source_of

ROWS = [(0, 1, 0), (0, 0, 1), (1, -1, -1), (1, -1, -1), (4, -1, 0)]
SPOTS = [(1, 0, 0), (1, 2, 0), (1, 0, 2), (2, 1, 1), (1, 0, 0)]

CORNERS = [(1, 0, 0), (1, 2, 0), (1, 0, 2), (1, 2, 2), (1, 1, 1)]
MAP = [(3, 1, 2), (0, 1, 4), (0, -2, 5)]

SQUARE = known.cube(2)
HALF = making.scaled(SQUARE, (1, 2))

CELLS = ((0, 1, 4), (0, 2, 4), (1, 3, 4), (2, 3, 4))
VECTORS = [(1, 0), (0, 1), (1, 3), (1, 0)]
BOOK = "points 1\npoint 0\n? (corner 0)\n! (yes ())\n"

CALLS = [
    (numbers.fraction, 6, -4), (numbers.plus, (1, 2), (1, 3)), (numbers.minus, (1, 2), (1, 3)),
    (numbers.times, (1, 2), (1, 3)), (numbers.over, (1, 2), (1, 3)), (numbers.sign, (1, 2)),
    (numbers.compare, (1, 2), (1, 3)), (numbers.floor, (1, 2)), (numbers.write_fraction, (1, 2)),
    (numbers.read_fraction, "1/2"),
    (vectors.dot, (1, 2), (3, 4)), (vectors.primitive, (2, 4)), (vectors.echelon, [(2, 4), (1, 3), (0, 0)]),
    (vectors.rank, [(2, 4), (1, 3)]), (vectors.determinant, [(0, 4), (1, 3)]), (vectors.determinant, [(5,)]),
    (vectors.solve, [(2, 4), (1, 3)], (1, 1)), (vectors.solve, [(2, 4)], (1,)),
    (vectors.relation, [(2, 4), (1, 2)]), (vectors.relation, [(0, 0)]),
    (points.is_point, 2, [1, 2, 3]), (points.is_inequality, 2, [1, [2], 3]), (points.made_point, [(1, 2), (1, 3)]),
    (points.middle, SPOTS), (points.coordinates, (6, 3, 2)), (points.made_inequality, (2, 4)),
    (points.reversed_inequality, (2, 3)), (points.value_at, (1, -1, 0), (6, 3, 2)),
    (points.combined, [1, 2, 3, 4, 5], SPOTS), (points.combined, [1], [(5, 5)]),
    (points.write_point, (6, 3, 2)), (points.write_inequality, (6, 3, 2)), (points.read_point, 2, "1 2"),
    (points.read_inequality, 1, "1 2"),
    (systems.case_paper, 2, ROWS), (systems.case_of, 2, ROWS), (systems.check_case, 2, ROWS, ["full", [1], [2]]),
    (systems.following_paper, 2, ROWS, (1, 1, 1)), (systems.check_following, 2, ROWS, (1, 1, 1), ["no", [1, 1]]),
    (systems.satisfies, ROWS, (3, 1, 1)), (systems.needed_rows, 2, ROWS),
    (questions.is_question, 2, SPOTS, ["inside", [1]]), (questions.check, 2, SPOTS, ("corner", 0), ["yes", [1]]),
    (questions.answer_paper, 2, SPOTS, ("inside", (1, 5, 5))), (questions.answer_paper, 2, SPOTS, ("corner", 1)),
    (questions.answer_paper, 2, SPOTS, ("face", (0, 1))), (questions.answer_paper, 2, SPOTS, ("meets", ((1, 1, 1),))),
    (questions.answer_paper, 2, SPOTS, ("within", (1, 1, 1), (1, 2))),
    (making.inverse_map, MAP), (cells.cell_volume, 2, CORNERS, (0, 1, 2)), (cells.triangulation, 2, CORNERS),
    (cells.is_triangulation, 2, CORNERS, ((0, 1, 2), [0, 1, 3])),
    (cells.is_triangulation, 2, CORNERS, ((0, 1, 2), (1, 2, 3))), (cells.lower_cells, 2, CORNERS, [0, 1, 1, 0, 7]),
    (ehrhart.box_points, 2, CORNERS, (0, 1, 2), (1,)), (ehrhart.ehrhart_value, [(1, 1), (3, 2), (1, 2)], 7),
    (console.run_console, "dimension 1\npoint 0\n"), (optimum.form_value, (1, 2), (3, 1, 1)),
    (optimum.optimum_paper, 2, ROWS, (1, 2)), (optimum.optimum_paper, 2, ROWS[:2], (1, 2)),
    (optimum.optimum_paper, 2, ROWS + [(-9, 0, 1)], (1, 2)),
    (optimum.check_optimum, 2, ROWS, (1, 2), ["best", [1], [2], 3]),
    (cones.cone_paper, 2, VECTORS, (3, 1)), (cones.cone_paper, 2, VECTORS, (-3, 1)),
    (cones.check_cone, 2, VECTORS, (3, 1), ["yes", [1], 2]),
    (zonotopes.sign_rows, 2, VECTORS), (zonotopes.zone_volume, 2, VECTORS), (zonotopes.zone_count, 2, VECTORS),
    (circuits.circuits, 2, CORNERS), (circuits.all_triangulations, 2, CORNERS), (circuits.flips, 2, CORNERS, CELLS),
    (regular.height_paper, 2, CORNERS, CELLS), (regular.check_heights, 2, CORNERS, CELLS, ["yes", [1, 2]]),
    (regular.is_fine, CORNERS, CELLS), (regular.counts_of_kinds, 2, CORNERS),
    (reflexive.is_unimodular, 2, CORNERS, (0, 1, 2)), (reflexive.is_empty_cell, 2, CORNERS, (0, 1, 2)),
    (fitting.projected, 2, ROWS, 1), (basic.pointing, 2, VECTORS), (basic.pointing, 2, [(1, 0), (-1, 0)]),
    (basic.basic_vectors, 2, VECTORS), (basic.as_sum, 2, VECTORS, (2, 3)), (basic.as_sum, 2, VECTORS, (-2, 3)),
    (papers.write_value, ("a", (1, ()))), (papers.read_value, "(a (1 ()))"),
    (papers.write_book, 2, SPOTS, [("corner", 0), ("inside", (1, 1, 1))]), (papers.read_book, BOOK),
    (papers.book_faults, BOOK),
]

# These return objects, or take them: an object never changes, which is seen by its lists.
POLYTOPE_CALLS = [
    (faces.faces, SQUARE), (faces.face_numbers, SQUARE), (faces.face_dimension, SQUARE, (0, 1)),
    (faces.is_face, SQUARE, [0, [1]]), (faces.meet, SQUARE, (0, 1), (0, 2)), (faces.join, SQUARE, (0,), (1,)),
    (faces.facets_of, SQUARE, (0,)), (faces.supporting, SQUARE, (0,)), (faces.graph, SQUARE), (faces.flags, SQUARE),
    (faces.is_simple, SQUARE), (faces.is_simplicial, SQUARE), (shapes.shape_map, SQUARE, SQUARE),
    (shapes.is_shape_map, SQUARE, SQUARE, [0, [1]]),
    (polytopes.same, SQUARE, SQUARE), (polytopes.Polytope.dimension, SQUARE), (polytopes.Polytope.vertices, SQUARE),
    (polytopes.Polytope.facets, SQUARE), (polytopes.Polytope.incidence, SQUARE),
    (polytopes.Polytope.contains, SQUARE, (1, 0, 0)), (polytopes.Polytope.is_inside, SQUARE, (1, 0, 0)),
    (volumes.volume, SQUARE), (volumes.centroid, SQUARE), (volumes.facet_volumes, SQUARE, (1, 0, 0)),
    (volumes.mixed_volumes, SQUARE, SQUARE), (lattice.lattice_points, SQUARE), (lattice.count, SQUARE),
    (lattice.inner_lattice_points, SQUARE), (lattice.inner_count, SQUARE), (lattice.lattice_width, SQUARE, (1, 2)),
    (ehrhart.ehrhart, SQUARE), (ehrhart.h_star, SQUARE), (books.write_polytope, SQUARE), (books.report, SQUARE),
    (optimum.greatest, SQUARE, (1, 2)), (optimum.best_face, SQUARE, (1, 0)),
    (ways.rising_way, SQUARE, (1, 2), 0), (ways.is_rising_way, SQUARE, (1, 2), [0, [1]]),
    (ways.distance, SQUARE, 0, 3), (ways.diameter, SQUARE),
    (symmetries.symmetries, SQUARE), (symmetries.affine_symmetries, SQUARE), (symmetries.orbits, SQUARE),
    (symmetries.affine_map, SQUARE, SQUARE), (symmetries.lattice_map, SQUARE, SQUARE),
    (symmetries.is_affine_map, SQUARE, SQUARE, [(1, 0, 0), (0, 1, 0), [0, 0, 1]]),
    (symmetries.is_affine_map, SQUARE, SQUARE, [(1, 0, 0), (0, 1, 0), (0, 0, 1)]),
    (cones.normals, SQUARE, (0,)), (cones.normal_paper, SQUARE, (0,), (1, 2)), (cones.are_parallel, SQUARE, SQUARE),
    (cones.edge_vectors, SQUARE, 0), (cones.tangent_facets, SQUARE, 0), (zonotopes.has_centre, SQUARE),
    (reflexive.is_reflexive, SQUARE), (reflexive.facet_distance, SQUARE, 0, (1, 0, 0)),
    (reflexive.lattice_size, SQUARE), (reflexive.boundary_points, SQUARE),
    (reflexive.face_lattice_points, SQUARE, (0, 1)), (fitting.is_contained, SQUARE, SQUARE),
    (fitting.box_of, SQUARE), (fitting.fit, SQUARE, SQUARE), (fitting.fit_system, SQUARE, SQUARE),
    (basic.is_normal, SQUARE), (basic.sum_gap, SQUARE),
]

# These return polytopes.
MAKERS = [
    (making.polar, SQUARE), (making.moved, SQUARE, MAP), (making.half, SQUARE, (0, 1, 1)),
    (making.meeting, SQUARE, SQUARE), (making.united, SQUARE, SQUARE), (making.summed, SQUARE, SQUARE),
    (making.scaled, SQUARE, (-1, 3)), (making.shifted, SQUARE, (3, 1, 1)), (dimensions.product, SQUARE, SQUARE),
    (dimensions.prism, SQUARE), (dimensions.pyramid, SQUARE), (dimensions.bipyramid, SQUARE),
    (dimensions.shadow, SQUARE, 1), (dimensions.section, SQUARE, 1, (1, 2)), (dimensions.corner_figure, SQUARE, 0),
    (lattice.lattice_hull, SQUARE), (faces.face_polytope, SQUARE, (0, 1)), (polytopes.hull, 2, SPOTS),
    (polytopes.common_part, 2, ROWS), (zonotopes.zonotope, 2, VECTORS),
    (fitting.eroded, SQUARE, HALF),
]


def lists_in(value):
    """Return all lists in a value, itself included."""
    if isinstance(value, list):
        return [value] + [inner for entry in value for inner in lists_in(entry)]
    if isinstance(value, tuple):
        return [inner for entry in value for inner in lists_in(entry)]
    return []


class GeneralTest(unittest.TestCase):
    def test_arguments_stay(self):
        for function, *arguments in CALLS:
            before = copy.deepcopy(arguments)
            function(*arguments)
            self.assertEqual(arguments, before, function.__name__)

    def test_arguments_of_makers_stay(self):
        for maker, rows in ((polytopes.hull, SPOTS), (polytopes.common_part, ROWS)):
            given = list(rows)
            P = maker(2, given)
            self.assertEqual(given, rows)
            before = lists_of(P)
            given.clear()
            self.assertEqual(lists_of(P), before)

    def test_polytopes_never_change(self):
        before = lists_of(SQUARE)
        for function, *arguments in POLYTOPE_CALLS:
            function(*arguments)
            self.assertEqual(lists_of(SQUARE), before)

    def test_makers(self):
        before = lists_of(SQUARE)
        for function, *arguments in MAKERS:
            given = [argument for argument in arguments if argument is not SQUARE and argument is not HALF]
            kept = copy.deepcopy(given)
            P = function(*arguments)
            self.assertIsInstance(P, polytopes.Polytope)
            self.assertEqual(given, kept, function.__name__)
            self.assertEqual(lists_of(SQUARE), before, function.__name__)

    def test_lists_are_new(self):
        for function, *arguments in CALLS + POLYTOPE_CALLS:
            first = function(*arguments)
            kept = copy.deepcopy(first)
            known = {id(entry) for argument in arguments for entry in lists_in(argument)}
            for entry in lists_in(first):
                self.assertNotIn(id(entry), known, function.__name__)
                entry.clear()
            self.assertEqual(function(*arguments), kept, function.__name__)


def four_digits(source, many):
    """Return points and inequalities of the dimension 4 whose integers have at most four digits."""
    spots = [(1,) + tuple(source.randint(-9999, 9999) for _ in range(4)) for _ in range(many)]
    signs = [(1, 1, 1, 1), (1, 1, -1, -1), (1, -1, 1, -1), (1, -1, -1, 1), (-1, -1, -1, -1), (-1, -1, 1, 1),
             (-1, 1, -1, 1), (-1, 1, 1, -1)]
    rows = [(source.randint(1, 9999),) + tuple(turn * source.randint(5000, 9999) for turn in row) for row in signs]
    return spots, [divided(row) for row in rows]


class EndsSoonTest(unittest.TestCase):
    def test_all_that_need_no_lattice_points(self):
        source = source_of(231)
        for _ in range(2):
            spots, rows = four_digits(source, 8)
            P = polytopes.hull(4, spots)
            Q = polytopes.common_part(4, rows)
            inner = volumes.centroid(P)
            self.assertTrue(P.is_inside(inner))
            back = (inner[0],) + tuple(-entry for entry in inner[1:])
            self.assertEqual(len(making.polar(making.shifted(P, back)).vertices()), len(P.facets()))
            self.assertEqual(len(volumes.mixed_volumes(P, Q)), 5)
            self.assertEqual(len(volumes.facet_volumes(Q, Q.vertices()[0])), len(Q.facets()))
            self.assertEqual(making.united(P, Q).dimension(), 4)
            self.assertEqual(optimum.optimum_paper(4, rows, (9999, -9998, 7777, 1))[0], "best")
            for R in (P, Q):
                vertices = R.vertices()
                self.assertIs(cells.is_triangulation(4, vertices, cells.triangulation(4, vertices)), True)
                heights = [source.randint(-9999, 9999) for _ in vertices]
                self.assertNotEqual(cells.lower_cells(4, vertices, heights), [])
                self.assertEqual(dimensions.corner_figure(R, 0).dimension(), 3)
                self.assertEqual(dimensions.shadow(R, 4).dimension(), 3)
                centre = volumes.centroid(R)
                height = numbers.fraction(centre[2], centre[0])
                self.assertEqual(dimensions.section(R, 2, height).dimension(), 3)
                self.assertEqual(making.half(R, facet_through(centre)).dimension(), 4)
                self.assertTrue(polytopes.same(books.read_polytope(books.write_polytope(R)), R))
            desk = builder.Builder(4)
            for spot in spots:
                desk.add(spot)
            for row in rows:
                desk.cut(row)
            self.assertIn(desk.state(), ("polytope", "flat", "empty"))
            self.assertGreaterEqual(desk.volume()[0], 0)

    def test_ways_symmetries_cones_and_zonotopes(self):
        source = source_of(232)
        for _ in range(2):
            spots, rows = four_digits(source, 8)
            P = polytopes.hull(4, spots)
            Q = polytopes.common_part(4, rows)
            form = (9999, -9998, 7777, 1)
            for R in (P, Q):
                many = len(R.vertices())
                self.assertTrue(all(ways.is_rising_way(R, form, ways.rising_way(R, form, k)) for k in range(many)))
                self.assertGreater(ways.diameter(R), 0)
                self.assertIn(tuple(range(many)), symmetries.affine_symmetries(R))
                self.assertEqual(sum(len(orbit) for row in symmetries.orbits(R) for orbit in row),
                                 1 + sum(faces.face_numbers(R)))
                self.assertTrue(symmetries.is_affine_map(R, R, symmetries.affine_map(R, R)))
                self.assertEqual(cones.normal_paper(R, optimum.best_face(R, form), form)[0], "yes")
                self.assertGreaterEqual(len(cones.edge_vectors(R, 0)), 4)
                self.assertIsNone(zonotopes.has_centre(R))
            self.assertIs(cones.are_parallel(Q, making.scaled(Q, (7, 3))), True)
            vectors = [spot[1:] for spot in spots]
            Z = zonotopes.zonotope(4, vectors)
            self.assertEqual(len(zonotopes.sign_rows(4, vectors)), sum(faces.face_numbers(Z)))
            self.assertEqual(volumes.volume(Z), (zonotopes.zone_volume(4, vectors), 1))
            self.assertGreater(zonotopes.zone_count(4, vectors), zonotopes.zone_volume(4, vectors))
        for R in (known.cube(4), known.cross(4)):
            self.assertEqual(len(symmetries.symmetries(R)), 384)
            self.assertEqual(len(symmetries.affine_symmetries(R)), 384)
            self.assertIsNotNone(symmetries.lattice_map(R, R))

    def test_circuits_fitting_and_papers(self):
        source = source_of(233)
        for d in range(1, 5):
            points = [(source.randint(1, 9999),) + tuple(source.randint(-9999, 9999) for _ in range(d))
                      for _ in range(7)]
            points = [divided(point) for point in points]
            rows = circuits.all_triangulations(d, points)
            self.assertTrue(all(other in rows for other in circuits.flips(d, points, rows[0])))
            self.assertEqual(regular.counts_of_kinds(d, points)[0], len(rows))
        spots, rows = four_digits(source, 8)
        P = polytopes.hull(4, spots)
        Q = polytopes.common_part(4, rows)
        t, x = fitting.fit(P, Q)
        self.assertTrue(fitting.is_contained(making.shifted(making.scaled(Q, t), x), P))
        self.assertTrue(polytopes.same(fitting.eroded(making.summed(P, Q), Q), P))
        for k in range(1, 5):
            self.assertNotEqual(fitting.projected(4, rows, k), [])
        self.assertLessEqual(reflexive.lattice_size(P), lattice.lattice_width(P, (1, 0, 0, 0))[0])
        text = papers.write_book(4, spots, [("corner", k) for k in range(8)] + [("face", (0, 1)), ("inside", spots[0])])
        self.assertEqual(papers.book_faults(text), [])


def facet_through(point):
    """Return an inequality that is tight at a point."""
    return divided((-point[1], point[0], 0, 0, 0))
