"""Points 5.1 to 5.4: questions about points, and papers."""

import itertools
import unittest

from hullwright.errors import BadQuestion
from hullwright.faces import faces
from hullwright.known import cross, cube, cyclic, simplex
from hullwright.questions import answer_paper, check, is_question
from tests.support import (
    ODD_VALUES, facets_by_words, inequality_by_words, is_flat_list, point_by_words, right_paper, satisfied,
    some_inequality, some_point, some_points, source_of, variants, vertices_by_words, whole, whole_row, words_of)


def question_by_words(d, points, value):
    """Tell whether a value is a question, by the words of point 5.1."""
    if words_of(value, "inside", 2):
        return point_by_words(d, value[1])
    if words_of(value, "corner", 2):
        return whole(value[1]) and value[1] in range(len(points))
    if words_of(value, "face", 2):
        row = value[1]
        if not isinstance(row, tuple) or not whole_row(len(row), row) or not 1 <= len(row) < len(points):
            return False
        return list(row) == sorted(set(row)) and all(entry in range(len(points)) for entry in row)
    if words_of(value, "meets", 2):
        row = value[1]
        return isinstance(row, tuple) and row != () and all(point_by_words(d, entry) for entry in row)
    if words_of(value, "within", 3):
        bound = value[2]
        if not inequality_by_words(d, value[1]) or not whole_row(2, bound):
            return False
        return point_by_words(1, (bound[1], bound[0]))
    return False


def some_questions(source, d, points, most):
    """Return random questions of all kinds about a list of points."""
    found = [("inside", some_point(source, d, most)), ("inside", source.choice(points)),
             ("corner", source.randrange(len(points))),
             ("meets", tuple(some_points(source, d, source.randint(1, 5), most))),
             ("within", some_inequality(source, d, most), (source.randint(-9, 9), 1)),
             ("within", some_inequality(source, d, most), (99 * most, 2 if most % 2 else 1))]
    if len(points) > 1:
        many = source.randint(1, len(points) - 1)
        found.append(("face", tuple(sorted(source.sample(range(len(points)), many)))))
        found.append(("face", (source.randrange(len(points)),)))
    return [question for question in found if question_by_words(d, points, question)]


def random_lists(number, many):
    """Yield a source, a dimension, a random list of points, and a bound for entries."""
    source = source_of(number)
    for _ in range(many):
        d = source.randint(1, 4)
        most = source.choice([1, 2, 5, 9999])
        yield source, d, some_points(source, d, source.randint(1, 8), most), most


class QuestionTest(unittest.TestCase):
    def assert_agrees(self, d, points, value):
        answer = is_question(d, points, value)
        self.assertIsInstance(answer, bool)
        self.assertEqual(answer, question_by_words(d, points, value), (d, points, value))
        if not answer:
            with self.assertRaises(BadQuestion):
                answer_paper(d, points, value)
            for paper in (("yes", ()), None):
                with self.assertRaises(BadQuestion):
                    check(d, points, value, paper)

    def test_any_value(self):
        for _, d, points, _ in random_lists(31, 12):
            for value in ODD_VALUES:
                self.assert_agrees(d, points, value)

    def test_changed_questions(self):
        for source, d, points, most in random_lists(32, 25):
            for question in some_questions(source, d, points, most):
                self.assertTrue(is_question(d, points, question))
                for value in variants(question):
                    self.assert_agrees(d, points, value)

    def test_edges(self):
        one = [(1, 5)]
        pair = [(1, 0), (1, 2)]
        for points, value, answer in [
                (one, ("corner", 0), True), (one, ("corner", 1), False), (one, ("corner", -1), False),
                (one, ("corner", False), False), (one, ("face", ()), False), (one, ("face", (0,)), False),
                (pair, ("face", (0,)), True), (pair, ("face", (0, 1)), False), (pair, ("face", (1, 0)), False),
                (pair, ("face", (0, 0)), False), (pair, ("face", (2,)), False), (pair, ("face", [0]), False),
                (pair, ("meets", ()), False), (pair, ("meets", ((1, 0), (1, 0))), True),
                (pair, ("meets", [(1, 0)]), False), (pair, ("meets", ((2, 0),)), False),
                (pair, ("inside", (1, 0, 0)), False), (pair, ("inside", (2, 2)), False),
                (pair, ("within", (0, 1), (1, 2)), True), (pair, ("within", (0, 1), (2, 4)), False),
                (pair, ("within", (0, 1), (1, 0)), False), (pair, ("within", (0, 1), (1, -2)), False),
                (pair, ("within", (0, 2), (1, 2)), False), (pair, ("within", (1, 0), (1, 2)), False),
                (pair, ("within", (0, 1), 1), False), (pair, ("outside", (1, 0)), False), (pair, "corner", False)]:
            self.assert_agrees(1, points, value)
            self.assertIs(is_question(1, points, value), answer, value)


class PaperTest(unittest.TestCase):
    def assert_answered(self, d, points, question):
        paper = answer_paper(d, points, question)
        self.assertTrue(right_paper(d, points, question, paper), (d, points, question, paper))
        self.assertIs(check(d, points, question, paper), True)
        return paper

    def test_random(self):
        seen = set()
        for source, d, points, most in random_lists(33, 500):
            for question in some_questions(source, d, points, most):
                seen.add((d, question[0], self.assert_answered(d, points, question)[0]))
        self.assertEqual(len(seen), 4 * 5 * 2)

    def test_truth_for_full_lists(self):
        for source, d, points, most in random_lists(34, 150):
            if is_flat_list(d, points):
                continue
            facets = facets_by_words(d, points)
            vertices = vertices_by_words(d, points)
            for point in [some_point(source, d, most), some_point(source, d, 2), points[0]]:
                expected = "yes" if satisfied(facets, point) else "no"
                self.assertEqual(answer_paper(d, points, ("inside", point))[0], expected)
            for k, point in enumerate(points):
                expected = "yes" if point in vertices and points.count(point) == 1 else "no"
                self.assertEqual(answer_paper(d, points, ("corner", k))[0], expected)

    def test_faces_of_polytopes(self):
        for P in [cube(1), cube(2), cube(3), cross(3), simplex(4), cyclic(2, 5), cyclic(4, 7)]:
            points = P.vertices()
            known = {face for row in faces(P) for face in row}
            for many in range(1, len(points)):
                for face in itertools.combinations(range(len(points)), many):
                    answer = self.assert_answered(P.dimension(), points, ("face", face))[0]
                    self.assertEqual(answer == "yes", face in known)

    def test_intervals_meet(self):
        for a, b, c, e in itertools.product(range(4), repeat=4):
            points = [(1, a), (1, b)]
            others = ((1, c), (1, e))
            meets = max(min(a, b), min(c, e)) <= min(max(a, b), max(c, e))
            answer = self.assert_answered(1, points, ("meets", others))[0]
            self.assertEqual(answer == "yes", meets)

    def test_within(self):
        points = [(2, 1), (1, 3), (1, 0), (1, 3)]
        self.assertEqual(self.assert_answered(1, points, ("within", (0, 1), (3, 1)))[0], "yes")
        self.assertEqual(self.assert_answered(1, points, ("within", (0, 1), (5, 2)))[0], "no")
        self.assertIs(check(1, points, ("within", (0, 1), (5, 2)), ("no", 1)), True)
        self.assertIs(check(1, points, ("within", (0, 1), (5, 2)), ("no", 3)), True)
        for data in (0, 2, 4, -1, -3, True, None, (1,), ()):
            self.assertIs(check(1, points, ("within", (0, 1), (5, 2)), ("no", data)), False)
        self.assertIs(check(1, points, ("within", (0, 1), (5, 2)), ("yes", ())), False)
        self.assertIs(check(1, points, ("within", (0, 1), (3, 1)), ("yes", [])), False)

    def test_equal_points(self):
        points = [(1, 0), (1, 2), (1, 0)]
        self.assertEqual(self.assert_answered(1, points, ("corner", 0))[0], "no")
        self.assertEqual(self.assert_answered(1, points, ("corner", 1))[0], "yes")
        self.assertEqual(self.assert_answered(1, points, ("face", (0,)))[0], "no")
        self.assertEqual(self.assert_answered(1, points, ("face", (0, 2)))[0], "yes")
        self.assertEqual(self.assert_answered(1, [(1, 4)] * 3, ("corner", 2))[0], "no")
        self.assertEqual(self.assert_answered(1, [(1, 4)] * 3, ("face", (0, 1)))[0], "no")

    def test_one_point(self):
        self.assertEqual(answer_paper(1, [(1, 4)], ("corner", 0)), ("yes", ()))
        self.assertIs(check(1, [(1, 4)], ("corner", 0), ("yes", ())), True)
        for paper in [("no", ()), ("no", (0,)), ("no", (1,)), ("yes", []), ("yes", (0,)), ("yes", None), ("yes", ((),))]:
            self.assertIs(check(1, [(1, 4)], ("corner", 0), paper), False)
        self.assertIs(check(1, [(1, 4), (1, 5)], ("corner", 0), ("yes", ())), False)
        self.assertEqual(self.assert_answered(1, [(1, 4)], ("inside", (1, 4)))[0], "yes")
        self.assertEqual(self.assert_answered(1, [(1, 4)], ("inside", (2, 7)))[0], "no")
        self.assertEqual(self.assert_answered(1, [(1, 4)], ("meets", ((2, 7), (1, 5))))[0], "yes")

    def test_examples(self):
        points = [(1, 0), (1, 2)]
        self.assertIs(check(1, points, ("inside", (1, 1)), ("yes", (1, 1))), True)
        self.assertIs(check(1, points, ("corner", 0), ("yes", (-1, 1))), True)
        for question, paper in [
                (("inside", (1, 1)), ("yes", (1, 2))), (("inside", (1, 1)), ("yes", (0, 0))),
                (("inside", (1, 1)), ("yes", (-1, -1))), (("inside", (1, 1)), ("yes", (1, 1, 0))),
                (("inside", (1, 3)), ("yes", (-1, 3))), (("inside", (1, 3)), ("no", (4, -2))),
                (("inside", (1, 3)), ("no", (-1, 0))), (("inside", (1, 3)), ("no", (1, -1))),
                (("corner", 0), ("yes", (0, 1))), (("corner", 0), ("no", (1, 0))), (("corner", 0), ("no", (0, 1))),
                (("face", (0,)), ("yes", (0, -1))), (("face", (0,)), ("yes", (2, -1))),
                (("face", (0,)), ("no", ((1, 0), (1, 0)))), (("face", (0,)), ("no", ((0, 1), (0, 1)))),
                (("meets", ((1, 5),)), ("no", (-1, 1))), (("meets", ((1, 5),)), ("no", (5, -1))),
                (("meets", ((1, 5),)), ("yes", ((0, 0), (0,))))]:
            self.assertIs(check(1, points, question, paper), False, (question, paper))
        self.assertIs(check(1, points, ("inside", (1, 3)), ("no", (2, -1))), True)
        self.assertIs(check(1, points, ("face", (0,)), ("yes", (0, 1))), True)
        self.assertIs(check(1, points, ("meets", ((1, 5),)), ("no", (3, -1))), True)
        self.assertIs(check(1, points, ("meets", ((1, 1), (1, 5))), ("yes", ((1, 1), (2, 0)))), True)

    def test_any_value(self):
        for source, d, points, most in random_lists(35, 12):
            for question in some_questions(source, d, points, most):
                for value in ODD_VALUES:
                    expected = right_paper(d, points, question, value)
                    self.assertIs(check(d, points, question, value), expected, (d, points, question, value))

    def test_changed_papers(self):
        for source, d, points, most in random_lists(36, 40):
            for question in some_questions(source, d, points, most):
                paper = answer_paper(d, points, question)
                other = ("no" if paper[0] == "yes" else "yes", paper[1])
                for value in list(variants(paper)) + [other]:
                    expected = right_paper(d, points, question, value)
                    self.assertIs(check(d, points, question, value), expected, (d, points, question, value))
