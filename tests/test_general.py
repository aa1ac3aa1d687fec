"""Point 0.2: the general rules, for all functions that have landed."""

import copy
import unittest

from hullwright import faces, known, numbers, points, polytopes, questions, shapes, systems, vectors

ROWS = [(0, 1, 0), (0, 0, 1), (1, -1, -1), (1, -1, -1), (4, -1, 0)]
SPOTS = [(1, 0, 0), (1, 2, 0), (1, 0, 2), (2, 1, 1), (1, 0, 0)]

SQUARE = known.cube(2)

CALLS = [
    (numbers.fraction, 6, -4), (numbers.plus, (1, 2), (1, 3)), (numbers.minus, (1, 2), (1, 3)),
    (numbers.times, (1, 2), (1, 3)), (numbers.over, (1, 2), (1, 3)), (numbers.sign, (1, 2)),
    (numbers.compare, (1, 2), (1, 3)), (numbers.floor, (1, 2)), (numbers.write_fraction, (1, 2)),
    (numbers.read_fraction, "1/2"),
    (vectors.dot, (1, 2), (3, 4)), (vectors.primitive, (2, 4)), (vectors.echelon, [(2, 4), (1, 3), (0, 0)]),
    (vectors.rank, [(2, 4), (1, 3)]), (vectors.determinant, [(0, 4), (1, 3)]), (vectors.determinant, [(5,)]),
    (vectors.solve, [(2, 4), (1, 3)], (1, 1)), (vectors.solve, [(2, 4)], (1,)),
    (vectors.relation, [(2, 4), (1, 2)]), (vectors.relation, [(0, 0)]),
    (points.is_point, 2, [1, 2, 3]), (points.is_inequality, 2, [1, [2], 3]), (points.made_point, [(1, 2), (1, 3)]),
    (points.middle, SPOTS), (points.coordinates, (6, 3, 2)), (points.made_inequality, (2, 4)),
    (points.reversed_inequality, (2, 3)), (points.value_at, (1, -1, 0), (6, 3, 2)),
    (points.combined, [1, 2, 3, 4, 5], SPOTS), (points.combined, [1], [(5, 5)]),
    (points.write_point, (6, 3, 2)), (points.write_inequality, (6, 3, 2)), (points.read_point, 2, "1 2"),
    (points.read_inequality, 1, "1 2"),
    (systems.case_paper, 2, ROWS), (systems.case_of, 2, ROWS), (systems.check_case, 2, ROWS, ["full", [1], [2]]),
    (systems.following_paper, 2, ROWS, (1, 1, 1)), (systems.check_following, 2, ROWS, (1, 1, 1), ["no", [1, 1]]),
    (systems.satisfies, ROWS, (3, 1, 1)), (systems.needed_rows, 2, ROWS),
    (questions.is_question, 2, SPOTS, ["inside", [1]]), (questions.check, 2, SPOTS, ("corner", 0), ["yes", [1]]),
    (questions.answer_paper, 2, SPOTS, ("inside", (1, 5, 5))), (questions.answer_paper, 2, SPOTS, ("corner", 1)),
    (questions.answer_paper, 2, SPOTS, ("face", (0, 1))), (questions.answer_paper, 2, SPOTS, ("meets", ((1, 1, 1),))),
    (questions.answer_paper, 2, SPOTS, ("within", (1, 1, 1), (1, 2))),
]

# These return objects, or take them: an object never changes, which is seen by its lists.
POLYTOPE_CALLS = [
    (faces.faces, SQUARE), (faces.face_numbers, SQUARE), (faces.face_dimension, SQUARE, (0, 1)),
    (faces.is_face, SQUARE, [0, [1]]), (faces.meet, SQUARE, (0, 1), (0, 2)), (faces.join, SQUARE, (0,), (1,)),
    (faces.facets_of, SQUARE, (0,)), (faces.supporting, SQUARE, (0,)), (faces.graph, SQUARE), (faces.flags, SQUARE),
    (faces.is_simple, SQUARE), (faces.is_simplicial, SQUARE), (shapes.shape_map, SQUARE, SQUARE),
    (shapes.is_shape_map, SQUARE, SQUARE, [0, [1]]),
    (polytopes.same, SQUARE, SQUARE), (polytopes.Polytope.dimension, SQUARE), (polytopes.Polytope.vertices, SQUARE),
    (polytopes.Polytope.facets, SQUARE), (polytopes.Polytope.incidence, SQUARE),
    (polytopes.Polytope.contains, SQUARE, (1, 0, 0)), (polytopes.Polytope.is_inside, SQUARE, (1, 0, 0)),
]


def lists_in(value):
    """Return all lists in a value, itself included."""
    if isinstance(value, list):
        return [value] + [inner for entry in value for inner in lists_in(entry)]
    if isinstance(value, tuple):
        return [inner for entry in value for inner in lists_in(entry)]
    return []


def lists_of(P):
    """Return all that tells a polytope from others."""
    return (P.dimension(), P.vertices(), P.facets(), P.incidence())


class GeneralTest(unittest.TestCase):
    def test_arguments_stay(self):
        for function, *arguments in CALLS:
            before = copy.deepcopy(arguments)
            function(*arguments)
            self.assertEqual(arguments, before, function.__name__)

    def test_arguments_of_makers_stay(self):
        for maker, rows in ((polytopes.hull, SPOTS), (polytopes.common_part, ROWS)):
            given = list(rows)
            P = maker(2, given)
            self.assertEqual(given, rows)
            before = lists_of(P)
            given.clear()
            self.assertEqual(lists_of(P), before)

    def test_polytopes_never_change(self):
        before = lists_of(SQUARE)
        for function, *arguments in POLYTOPE_CALLS:
            function(*arguments)
            self.assertEqual(lists_of(SQUARE), before)
        faces.face_polytope(SQUARE, (0, 1))
        self.assertEqual(lists_of(SQUARE), before)

    def test_lists_are_new(self):
        for function, *arguments in CALLS + POLYTOPE_CALLS:
            first = function(*arguments)
            kept = copy.deepcopy(first)
            known = {id(entry) for argument in arguments for entry in lists_in(argument)}
            for entry in lists_in(first):
                self.assertNotIn(id(entry), known, function.__name__)
                entry.clear()
            self.assertEqual(function(*arguments), kept, function.__name__)
