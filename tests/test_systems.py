"""Points 3.1 to 3.5: the cases of systems, what follows, and the needed rows."""

import unittest

from hullwright.systems import (
    case_of, case_paper, check_case, check_following, following_paper, needed_rows, satisfies)
from tests.support import (
    ODD_VALUES, axis_row, box_rows, known_systems, product_of, right_case, right_following, satisfied, some_inequality,
    some_point, some_system, source_of, systems_of, variants)


def random_systems(number, many):
    """Yield pairs of a dimension and a random system."""
    source = source_of(number)
    for _ in range(many):
        d = source.randint(1, 4)
        yield d, some_system(source, d, source.randint(1, 8), source.choice([1, 2, 3, 9999]))


class CaseTest(unittest.TestCase):
    def assert_case(self, d, rows):
        paper = case_paper(d, rows)
        self.assertTrue(right_case(d, rows, paper), (d, rows, paper))
        self.assertIs(check_case(d, rows, paper), True)
        self.assertEqual(case_of(d, rows), paper[0])
        return paper[0]

    def test_known_systems(self):
        for d, rows, word in known_systems():
            self.assertEqual(self.assert_case(d, rows), word, (d, rows))

    def test_random_systems(self):
        seen = set()
        for d, rows in random_systems(14, 1500):
            seen.add((d, self.assert_case(d, rows)))
        self.assertEqual(len(seen), 16)

    def test_many_inequalities(self):
        source = source_of(15)
        for _ in range(20):
            d = source.randint(2, 4)
            rows = [some_inequality(source, d, 9) for _ in range(30)]
            self.assert_case(d, [(abs(row[0]) + 1,) + row[1:] for row in rows])
            self.assert_case(d, rows)

    def test_examples(self):
        self.assertEqual(case_of(1, [(0, 1), (1, -1)]), "full")
        self.assertIs(check_case(1, [(-2, 1), (1, -1)], ("empty", (1, 1))), True)
        self.assertIs(check_case(1, [(0, 1)], ("unbounded", (1, 0), (1,))), True)

    def test_papers_that_are_nearly_right(self):
        rows = [(0, 1), (1, -1)]
        self.assertTrue(check_case(1, rows, ("full", (2, 1), (5, 5))))
        for paper in [("full", (1, 0), (1, 1)), ("full", (2, 1), (1, 0)), ("full", (2, 1), (1, 2)),
                      ("full", (4, 2), (1, 1)), ("full", [2, 1], (1, 1)), ("full", (2, 1), [1, 1]),
                      ("full", (2, 1), (-1, -1)), ("flat", (1, 0), (0, 0), (1, 1)), ("empty", (1, 1)),
                      ("unbounded", (2, 1), (1,)), ("unbounded", (2, 1), (0,)), ["full", (2, 1), (1, 1)]]:
            self.assertIs(check_case(1, rows, paper), False, paper)
        flat = [(0, 1), (0, -1)]
        self.assertTrue(check_case(1, flat, ("flat", (1, 0), (2, 2), (1, 1))))
        for paper in [("flat", (1, 1), (1, 1), (1, 1)), ("flat", (1, 0), (0, 0), (1, 1)),
                      ("flat", (1, 0), (1, 1), (0, 0)), ("flat", (1, 0), (1, 2), (1, 1)), ("full", (1, 0), (1, 1)),
                      ("empty", (1, 1)), ("empty", (0, 0)), ("unbounded", (1, 0), (1,))]:
            self.assertIs(check_case(1, flat, paper), False, paper)

    def test_rank_matters(self):
        strip = [(1, 1, 0), (1, -1, 0)]
        self.assertEqual(case_of(2, strip), "unbounded")
        self.assertIs(check_case(2, strip, ("full", (1, 0, 0), (1, 1))), False)
        line = [(0, 1, 0), (0, -1, 0)]
        self.assertEqual(case_of(2, line), "unbounded")
        self.assertIs(check_case(2, line, ("flat", (1, 0, 0), (1, 1), (1, 1))), False)
        self.assertIs(check_case(2, line, ("unbounded", (1, 0, 0), (0, -1))), True)

    def test_any_value(self):
        for d, rows, _ in known_systems():
            for value in ODD_VALUES:
                self.assertIs(check_case(d, rows, value), right_case(d, rows, value))

    def test_changed_papers(self):
        source = source_of(16)
        for d, rows, _ in known_systems():
            for value in variants(case_paper(d, rows)):
                self.assertIs(check_case(d, rows, value), right_case(d, rows, value), (d, rows, value))
        for d, rows in random_systems(17, 60):
            for value in variants(case_paper(d, source.choice([rows, rows[:1], rows[::-1]]))):
                self.assertIs(check_case(d, rows, value), right_case(d, rows, value), (d, rows, value))

    def test_only_one_word(self):
        for d, rows, word in known_systems():
            for other_d, other_rows, other in known_systems():
                if d == other_d and len(rows) == len(other_rows) and word != other:
                    self.assertIs(check_case(d, rows, case_paper(d, other_rows)), False)


class FollowingTest(unittest.TestCase):
    def assert_following(self, d, rows, inequality):
        paper = following_paper(d, rows, inequality)
        self.assertTrue(right_following(d, rows, inequality, paper), (d, rows, inequality, paper))
        self.assertIs(check_following(d, rows, inequality, paper), True)
        return paper[0]

    def test_known(self):
        for d, rows, word in known_systems():
            for row in rows:
                self.assertNotEqual(self.assert_following(d, rows, row), "no")
                self.assertNotEqual(self.assert_following(d, rows, (row[0] + 1,) + row[1:]), "no")
            if word == "full":
                for at in range(d):
                    self.assertEqual(self.assert_following(d, rows, axis_row(d, -10 ** 6, at, 1)), "no")
                    self.assertEqual(self.assert_following(d, rows, axis_row(d, 10 ** 6, at, 1)), "yes")

    def test_along_a_direction(self):
        self.assertEqual(self.assert_following(1, [(0, 1)], (10 ** 9, -1)), "no")
        self.assertEqual(self.assert_following(2, [(-5, 1, 0)], (0, 1, 1)), "no")
        self.assertEqual(self.assert_following(2, [(-5, 1, 0), (7, 0, 1)], (2, 1, 1)), "yes")
        self.assertEqual(self.assert_following(2, [(-5, 1, 0), (7, 0, 1)], (1, 1, 1)), "no")

    def test_from_nothing(self):
        for d in range(1, 5):
            for rows in systems_of(d)["empty"]:
                for inequality in (axis_row(d, -99, 0, 1), axis_row(d, 3, d - 1, -1), (0,) + (1,) * d):
                    self.assertIn(self.assert_following(d, rows, inequality), ("yes", "none"))
        empty = [(-1, 1, 0), (0, -1, 0)]
        self.assertEqual(self.assert_following(2, empty, (0, 0, 1)), "none")

    def test_random(self):
        source = source_of(18)
        seen = set()
        for d, rows in random_systems(19, 1500):
            seen.add(self.assert_following(d, rows, some_inequality(source, d, source.choice([1, 3, 9999]))))
        self.assertEqual(seen, {"yes", "none", "no"})

    def test_one_point_decides(self):
        source = source_of(20)
        for d, rows in random_systems(21, 300):
            inequality = some_inequality(source, d, 3)
            word = following_paper(d, rows, inequality)[0]
            for _ in range(20):
                point = some_point(source, d, 3)
                if satisfied(rows, point) and product_of(inequality, point) < 0:
                    self.assertEqual(word, "no")

    def test_papers_that_are_nearly_right(self):
        rows = [(0, 1), (1, -1)]
        self.assertTrue(check_following(1, rows, (5, 1), ("yes", (1, 0), 1, 5)))
        self.assertTrue(check_following(1, rows, (5, 1), ("yes", (3, 2), 1, 3)))
        for paper in [("yes", (1, 0), 1, 4), ("yes", (1, 0), 0, 5), ("yes", (0, 0), 0, 0), ("yes", (1, 0), True, 5),
                      ("yes", (-1, 0), -1, 5), ("yes", (8, 7), 1, -2), ("yes", [1, 0], 1, 5), ("none", (1, 1)),
                      ("none", (0, 0)), ("no", (1, -6)), ("no", (1, 0)), ("no", ()), ("yes", (1, 0), 1)]:
            self.assertIs(check_following(1, rows, (5, 1), paper), False, paper)
        self.assertIs(check_following(1, rows, (0, -1), ("no", (1, 1))), True)
        self.assertIs(check_following(1, rows, (0, -1), ("no", (1, 2))), False)
        self.assertIs(check_following(1, rows, (0, -1), ("no", (2, 2))), False)
        self.assertIs(check_following(1, [(-2, 1), (1, -1)], (0, 1), ("none", (1, 1))), True)

    def test_any_value(self):
        source = source_of(22)
        for d, rows, _ in known_systems():
            inequality = some_inequality(source, d, 3)
            for value in ODD_VALUES + list(variants(following_paper(d, rows, inequality))):
                expected = right_following(d, rows, inequality, value)
                self.assertIs(check_following(d, rows, inequality, value), expected, (d, rows, inequality, value))


class NeededTest(unittest.TestCase):
    def test_satisfies(self):
        rows = [(0, 1, 0), (0, 0, 1), (1, -1, -1)]
        for point, answer in [((1, 0, 0), True), ((2, 1, 1), True), ((3, 1, 1), True), ((1, 1, 1), False),
                              ((1, -1, 0), False), ((1, 0, 1), True), ((9999, 1, 9999), False)]:
            self.assertIs(satisfies(rows, point), answer)

    def test_examples(self):
        rows = [(1, -1, -1), (0, 1, 0), (0, 0, 1), (5, -1, 0), (0, 1, 0), (1, -1, 0)]
        self.assertEqual(needed_rows(2, rows), [(0, 0, 1), (0, 1, 0), (1, -1, -1)])
        self.assertEqual(needed_rows(1, [(0, 1), (3, -1), (2, -1), (2, -1)]), [(0, 1), (2, -1)])

    def test_by_the_words(self):
        source = source_of(23)
        systems = [(d, rows) for d, rows, word in known_systems() if word == "full"]
        for _ in range(150):
            d = source.randint(1, 4)
            systems.append((d, some_system(source, d, source.randint(1, 6), 3) + box_rows(d, 2)))
        for d, rows in systems:
            if case_of(d, rows) != "full":
                continue
            found = needed_rows(d, rows)
            self.assertIsInstance(found, list)
            self.assertEqual(found, sorted(set(found)))
            for row in set(rows):
                others = [other for other in rows if other != row]
                self.assertEqual(following_paper(d, others, row)[0] == "no", row in found)
                self.assertEqual(following_paper(d, found, row)[0], "yes")
