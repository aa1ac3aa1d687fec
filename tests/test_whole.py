"""Point 0.1: what is promised over the whole program, over its parts together."""

import itertools
import unittest
from fractions import Fraction

from hullwright.basic import basic_vectors, sum_gap
from hullwright.books import read_polytope, write_polytope
from hullwright.builder import Builder
from hullwright.cells import cell_volume, cells_volume, lower_cells, triangulation
from hullwright.circuits import all_triangulations
from hullwright.cones import check_cone, cone_paper, normal_paper, normals
from hullwright.ehrhart import box_points, ehrhart, ehrhart_value, h_star
from hullwright.errors import Empty, Flat
from hullwright.faces import face_numbers, faces
from hullwright.fitting import eroded, fit, fit_system
from hullwright.lattice import count, inner_count, lattice_points
from hullwright.making import half, moved, polar, scaled, shifted, summed
from hullwright.numbers import fraction, plus, times
from hullwright.optimum import check_optimum, greatest, optimum_paper
from hullwright.papers import book_faults, read_book, write_book
from hullwright.polytopes import common_part, hull, same
from hullwright.questions import answer_paper, check
from hullwright.reflexive import boundary_points, is_reflexive
from hullwright.regular import check_heights, height_paper
from hullwright.symmetries import affine_map, affine_symmetries, symmetries
from hullwright.systems import case_of, case_paper, check_case, check_following, following_paper
from hullwright.volumes import facet_volumes, mixed_volumes, volume
from hullwright.zonotopes import zone_count, zone_volume, zonotope
from tests.samples import (
    lattice_polytope, lists_of, polytope_around_zero, random_polytope, samples, some_map, some_unimodular_map)
from tests.support import (
    det_by_words, divided, point_by_words, point_of, product_of, right_paper, satisfied, some_inequality, some_point,
    some_points, some_row, some_system, source_of)
from tests.test_papers import some_questions


class BothDescriptionsTest(unittest.TestCase):
    """A polytope is the same whether it comes from points or from inequalities; the polar of its polar is itself."""

    def test_points_and_inequalities(self):
        source = source_of(441)
        for d in range(1, 5):
            for most in (2, 9, 9999):
                P = random_polytope(source, d, source.randint(d + 1, 8), most)
                Q = common_part(d, P.facets())
                self.assertEqual(lists_of(Q), lists_of(P))
                self.assertEqual(lists_of(hull(d, Q.vertices())), lists_of(P))
                # Further points of it, and further inequalities that follow, change nothing.
                inside = [some_mixture(source, P) for _ in range(4)]
                mixed = P.vertices() + inside
                source.shuffle(mixed)
                self.assertEqual(lists_of(hull(d, mixed)), lists_of(P))
                rows = P.facets() + [P.facets()[0]] + [loosened(source, P) for _ in range(3)]
                source.shuffle(rows)
                self.assertEqual(lists_of(common_part(d, rows)), lists_of(P))
                self.assertEqual(lists_of(read_polytope(write_polytope(P))), lists_of(P))
                self.assertEqual(case_of(d, rows), "full")

    def test_polar_of_polar(self):
        source = source_of(442)
        for d in range(1, 5):
            for most in (3, 9999):
                P = polytope_around_zero(source, d, 8, most)
                Q = polar(P)
                self.assertEqual(lists_of(polar(Q)), lists_of(P))
                self.assertEqual(face_numbers(Q)[:-1], face_numbers(P)[-2::-1])
                self.assertEqual(lists_of(hull(d, Q.vertices())), lists_of(Q))
                self.assertEqual(lists_of(common_part(d, P.vertices())), lists_of(Q))
                self.assertEqual(is_reflexive(P), is_reflexive(P) and is_reflexive(Q))

    def test_alternating_sums(self):
        for d in range(1, 5):
            for P in samples(d, 443, 2):
                self.assertEqual(sum((-1) ** k * number for k, number in enumerate(face_numbers(P))), 1)


def some_mixture(source, P):
    """Return a random point of a polytope."""
    weights = [source.randint(0, 3) for _ in P.vertices()]
    weights[0] += 1
    total = [sum(weight * Fraction(vertex[k], vertex[0]) for weight, vertex in zip(weights, P.vertices()))
             / sum(weights) for k in range(1, P.dimension() + 1)]
    return point_of(total)


def loosened(source, P):
    """Return an inequality that follows from the facets."""
    chosen = source.sample(P.facets(), 2)
    row = [a + 2 * b for a, b in zip(*chosen)]
    row[0] += source.randint(0, 2)
    if not any(row[1:]):
        return chosen[0]
    return divided(row)


class ExactTest(unittest.TestCase):
    """Every answer is exact."""

    def test_great_numbers(self):
        # With 40 digits, a change of the last one is seen.
        big = 10 ** 40
        P = hull(2, [(1, 0, 0), (1, big, 0), (1, 0, big), (1, big, big + 1)])
        self.assertEqual(volume(P), (big * (2 * big + 1) // 2, 1))
        self.assertIs(P.contains((2, big, 2 * big + 1)), True)
        self.assertIs(P.contains((1, 1, big + 1)), False)
        self.assertEqual(greatest(P, (1, -1)), (big, 1))
        self.assertEqual(fit(P, P)[0], (1, 1))
        self.assertEqual(zone_count(2, [(big, 1), (1, big)]), big * big - 1 + 1 + 1 + 1)
        question = ("inside", (big, big * big - 1, big * big))
        self.assertEqual(answer_paper(2, P.vertices(), question)[0], "yes")
        system = [(-big - 1, big), (big, -big)]
        self.assertEqual(case_of(1, system), "empty")
        self.assertEqual(case_of(1, [(-big, big), (big, -big)]), "flat")
        self.assertEqual(case_of(1, [(-big + 1, big), (big, -big)]), "full")

    def test_kinds_of_numbers(self):
        source = source_of(444)
        P = random_polytope(source, 3, 7, 9)
        values = [volume(P), P.vertices(), P.facets(), facet_volumes(P, P.vertices()[0]), fit(P, P), symmetries(P),
                  mixed_volumes(P, P), affine_map(P, P), greatest(P, (1, 2, 3)), optimum_paper(3, P.facets(), (1, 2, 3))]
        for value in values:
            self.assertTrue(all(type(entry) in (int, str) for entry in leaves(value)))


def leaves(value):
    """Yield what stands in lists and tuples."""
    if isinstance(value, (list, tuple)):
        for entry in value:
            yield from leaves(entry)
    else:
        yield value


class PapersTest(unittest.TestCase):
    """Every question has exactly one answer with right papers, and every paper that is taken tells the truth."""

    def test_books(self):
        source = source_of(445)
        for _ in range(25):
            d = source.randint(1, 4)
            points = some_points(source, d, source.randint(1, 8), source.choice([2, 9999]))
            questions = some_questions(source, d, points)
            text = write_book(d, points, questions)
            self.assertEqual(book_faults(text), [])
            for question, paper in read_book(text)[2]:
                self.assertTrue(right_paper(d, points, question, paper))

    def test_one_answer(self):
        # Papers of each answer, from whoever it is: of other questions, and changed by chance.
        source = source_of(446)
        for _ in range(25):
            d = source.randint(1, 3)
            points = some_points(source, d, source.randint(1, 5), 2)
            questions = some_questions(source, d, points) + some_questions(source, d, points)
            papers = [answer_paper(d, points, question) for question in questions]
            papers += [(word, paper[1]) for paper in papers for word in ("yes", "no")]
            papers += [(source.choice(["yes", "no"]), tuple(source.randint(-1, 2) for _ in range(many)))
                       for many in (len(points), d + 1) for _ in range(40)]
            for question in questions:
                taken = {paper[0] for paper in papers if check(d, points, question, paper)}
                self.assertEqual(taken, {answer_paper(d, points, question)[0]})

    def test_papers_of_systems(self):
        source = source_of(447)
        for _ in range(40):
            d = source.randint(1, 4)
            rows = some_system(source, d, source.randint(1, 8), source.choice([2, 9999]))
            case = case_paper(d, rows)
            self.assertIs(check_case(d, rows, case), True)
            inequality = some_inequality(source, d, 5)
            paper = following_paper(d, rows, inequality)
            self.assertIs(check_following(d, rows, inequality, paper), True)
            if case[0] == "empty":
                self.assertIn(paper[0], ("yes", "none"))
            form = some_row(source, d, 5)
            best = optimum_paper(d, rows, form)
            self.assertIs(check_optimum(d, rows, form, best), True)
            self.assertEqual(best[0] == "empty", case[0] == "empty")
            # What bounds the form follows, and nothing sharper does.
            if best[0] == "best" and any(form):
                top = fraction(product_of(form, best[1][1:]), best[1][0])
                bound = divided([top[0]] + [-top[1] * b for b in form])
                sharper = divided([2 * bound[0] - 1] + [2 * entry for entry in bound[1:]])
                self.assertEqual(following_paper(d, rows, bound)[0], "yes")
                self.assertEqual(following_paper(d, rows, sharper)[0], "no")

    def test_papers_of_cones_heights_and_copies(self):
        source = source_of(448)
        for d in range(1, 5):
            P = random_polytope(source, d, d + 2, 4)
            form = some_row(source, d, 4)
            for face in [face for row in faces(P)[1:-1] for face in row]:
                turned = [tuple(-entry for entry in row) for row in normals(P, face)]
                paper = normal_paper(P, face, form)
                self.assertEqual(paper[0], cone_paper(d, turned, form)[0])
                self.assertIs(check_cone(d, turned, form, paper), True)
            if d < 4:
                Q = random_polytope(source, d, d + 1, 4)
                paper = optimum_paper(d + 1, fit_system(P, Q), (0,) * d + (1,))
                self.assertEqual(fraction(paper[1][-1], paper[1][0]), fit(P, Q)[0])
        points = [(1, 0, 0), (1, 4, 0), (1, 0, 4), (1, 1, 1), (1, 2, 1), (1, 1, 2)]
        for cells in all_triangulations(2, points):
            self.assertIs(check_heights(2, points, cells, height_paper(2, points, cells)), True)


class VolumesAndCountsTest(unittest.TestCase):
    """Volumes and counts of lattice points do not depend on the way in which they are found."""

    def test_volumes(self):
        source = source_of(449)
        for d in range(1, 5):
            P = random_polytope(source, d, d + 3, 9)
            vertices = P.vertices()
            whole = volume(P)
            ways = [cells_volume(d, vertices, list(triangulation(d, vertices)))]
            for _ in range(3):
                heights = [source.randint(-9999, 9999) for _ in vertices]
                cells = lower_cells(d, vertices, heights)
                if all(len(cell) == d + 1 for cell in cells):
                    ways.append(cells_volume(d, vertices, cells))
            for cells in all_triangulations(d, vertices)[:10]:
                total = (0, 1)
                for cell in cells:
                    total = plus(total, cell_volume(d, vertices, cell))
                ways.append(total)
            for point in (vertices[0], some_mixture(source, P)):
                total = (0, 1)
                for part in facet_volumes(P, point):
                    total = plus(total, part)
                ways.append(total)
            ways += [mixed_volumes(P, P)[0], volume(shifted(P, some_point(source, d, 9)))]
            ways.append(times(volume(scaled(P, (3, 1))), (1, 3 ** d)))
            ways.append(volume(moved(P, some_unimodular_map(source, d))))
            row = some_inequality(source, d, 5)
            ways.append(plus(part_volume(P, row), part_volume(P, tuple(-entry for entry in row))))
            self.assertEqual(set(ways), {whole})

    def test_counts(self):
        source = source_of(450)
        for d in range(1, 5):
            for _ in range(3):
                P = lattice_polytope(source, d, d + 2, 4 if d < 4 else 2)
                many = count(P)
                self.assertEqual(many, len(lattice_points(P)))
                self.assertEqual(many, ehrhart_value(ehrhart(P), 1))
                self.assertEqual(many, h_star(P)[1] + d + 1)
                self.assertEqual(many, inner_count(P) + len(boundary_points(P)))
                self.assertEqual(many, count(moved(P, some_unimodular_map(source, d))))
                self.assertEqual(many, len([v for v in basic_vectors(d + 1, P.vertices()) if v[0] == 1]))
                self.assertEqual(many, count_by_boxes(d, P))
                self.assertEqual(count(scaled(P, (2, 1))), ehrhart_value(ehrhart(P), 2))
                self.assertEqual(sum(h_star(P)), Fraction(*volume(P)) * factorial(d))
                self.assertTrue(all(vector[0] > 1 for vector in sum_gap(P)))

    def test_zonotopes(self):
        source = source_of(451)
        for d in range(1, 5):
            vectors = []
            while len(vectors) < d + 1 or zone_volume(d, vectors) == 0:
                vectors = [some_row(source, d, 2) for _ in range(d + 1)]
                vectors = [vector for vector in vectors if any(vector)]
            Z = zonotope(d, vectors)
            self.assertEqual(volume(Z), (zone_volume(d, vectors), 1))
            self.assertEqual(count(Z), zone_count(d, vectors))

    def test_maps(self):
        source = source_of(452)
        for d in range(1, 5):
            P = random_polytope(source, d, d + 2, 5)
            Q = moved(P, some_map(source, d, 3))
            self.assertEqual(len(affine_symmetries(P)), len(affine_symmetries(Q)))
            self.assertEqual(face_numbers(P), face_numbers(Q))
            self.assertTrue(same(moved(P, affine_map(P, Q)), Q))
            self.assertTrue(same(eroded(summed(P, Q), Q), P))


def factorial(d):
    """Return the product of the numbers up to d."""
    return [1, 1, 2, 6, 24][d]


def part_volume(P, inequality):
    """Return the volume of the part of a polytope in which an inequality holds."""
    try:
        return volume(half(P, inequality))
    except (Empty, Flat):
        return (0, 1)


def count_by_boxes(d, P):
    """Return the number of the lattice points, from the half-open cells that a point sees, as point 9.4 tells."""
    vertices = P.vertices()
    cells = triangulation(d, vertices)
    # A point in no plane of a facet of a cell.
    for factor in itertools.count(2):
        point = [sum(factor ** k * vertex[i] for k, vertex in enumerate(vertices)) for i in range(d + 1)]
        sides = [[height_of(vertices, cell, k, point) for k in cell] for cell in cells]
        if all(all(row) for row in sides):
            break
    found = 0
    for cell, row in zip(cells, sides):
        seen = tuple(k for k, height in zip(cell, row) if height < 0)
        for vector in box_points(d, vertices, cell, seen):
            # Of its own multiple, and one of the others for each point of the cell that may be added once.
            if vector[0] == 0:
                found += d + 1
            elif vector[0] == 1:
                found += 1
    return found


def height_of(vertices, cell, k, point):
    """Return a number whose sign tells whether a point is on the side of the vertex k of a facet of a cell."""
    others = [vertices[i] for i in cell if i != k]
    return det_by_words(others + [tuple(point)]) * det_by_words(others + [vertices[k]])


class StepByStepTest(unittest.TestCase):
    """A polytope that is changed step by step is equal to the one that is made anew."""

    def test_builders(self):
        source = source_of(453)
        for d in range(1, 5):
            desk = Builder(d)
            spots = [some_point(source, d, 3) for _ in range(d + 3)]
            rows = [some_inequality(source, d, 3) for _ in range(3)]
            for _ in range(40):
                step = source.choice(["add", "add", "remove", "cut", "uncut", "undo"])
                if step == "add":
                    desk.add(source.choice(spots))
                elif step == "cut":
                    desk.cut(source.choice(rows))
                elif step == "undo":
                    desk.undo()
                elif step == "remove" and desk.points():
                    desk.remove(source.choice(desk.points()))
                elif step == "uncut" and desk.inequalities():
                    desk.uncut(source.choice(desk.inequalities()))
                self.assert_made_anew(d, desk)

    def assert_made_anew(self, d, desk):
        """Assert that a builder's polytope is the one that its lists make."""
        points, rows = desk.points(), desk.inequalities()
        self.assertTrue(all(point_by_words(d, point) for point in points))
        fresh = Builder(d)
        for point in reversed(points):
            fresh.add(point)
        for row in reversed(rows):
            fresh.cut(row)
        self.assertEqual(fresh.state(), desk.state())
        self.assertEqual(fresh.volume(), desk.volume())
        if desk.state() == "polytope":
            P = desk.polytope()
            self.assertEqual(lists_of(P), lists_of(fresh.polytope()))
            self.assertEqual(desk.volume(), volume(P))
            try:
                Q = hull(d, points)
            except Flat:
                self.fail("there is a polytope in a flat hull")
            for row in rows:
                Q = half(Q, row)
            self.assertEqual(lists_of(Q), lists_of(P))
            self.assertTrue(all(satisfied(rows, vertex) for vertex in P.vertices()))
