"""What the tests share: values of any kind, random data, and the words of the document as checks.

Nothing here uses the package, so that the tests do not ask the program about itself.
"""

import itertools
import math
import random
from fractions import Fraction
from functools import reduce


class Unequal:
    """An object that cannot be compared."""

    def __eq__(self, other):
        raise RuntimeError("not to be compared")

    __hash__ = None


def nested(kind, depth):
    """Return an empty tuple or list inside of so many others."""
    value = kind()
    for _ in range(depth):
        value = kind([value])
    return value


ODD_VALUES = [
    None, True, False, 0, 1, -1, 7, 10 ** 50, 1.5, 0.0, float("nan"), float("inf"), 1j,
    "", "a", "yes", "no", "full", "empty", "flat", "unbounded", "none", "inside", "corner", "face", "meets", "within",
    b"", b"yes", [], {}, set(), frozenset(), object(), int, len, Unequal(), range(3), Fraction(1, 2),
    (), ((),), ((), ()), (0,), (1,), (1, 0), (1, 0, 0), (0, 1), (None,), (True,), (1, True), (1.0, 0.0), ("yes",),
    ("yes", ()), ("no", ()), ("yes", None), ("no", None), ("yes", (), 1, 0), ("full", (), ()), ("flat", (), (), ()),
    ("empty", ()), ("unbounded", (), ()), ("none", ()), ("inside", ()), ("corner", -1), ("corner", True), ("face", ()),
    ("meets", ()), ("within", (), ()), [1, 0], ["yes", ()], (Unequal(), Unequal()), ("yes", Unequal()),
    (Unequal(),), ("empty", Unequal()), (b"yes", ()), {"yes": 1}, (1, "0"), ("1", 0), (0, 0), (0, 0, 0, 0, 0),
    nested(tuple, 100), nested(list, 100), ("yes", nested(tuple, 99)), ("inside", nested(tuple, 99)),
]


def variants(value):
    """Yield values that come from a tuple by one change, most of them of another form."""
    yield list(value)
    yield value + (0,)
    yield value[:-1]
    yield (value,)
    for k, entry in enumerate(value):
        for other in replacements(entry):
            yield value[:k] + (other,) + value[k + 1:]


def replacements(entry):
    """Yield values that may stand in the place of an entry."""
    yield from [None, True, False, "x", 1.0, (), [], Unequal()]
    if isinstance(entry, tuple):
        yield from variants(entry)
    elif isinstance(entry, int):
        yield from [-entry, entry + 1, entry - 1, float(entry), str(entry), (entry,), 10 ** 30]


def divided(row):
    """Return a vector divided by the greatest common divisor of its entries."""
    common = reduce(math.gcd, row, 0)
    return tuple(entry // common for entry in row) if common else tuple(row)


def product_of(v, w):
    """Return the sum of the products of the entries."""
    assert len(v) == len(w)
    return sum(a * b for a, b in zip(v, w))


def weighted(weights, rows):
    """Return the sum of the rows times the weights."""
    assert len(weights) == len(rows)
    return tuple(sum(w * row[k] for w, row in zip(weights, rows)) for k in range(len(rows[0])))


def reduced_form(rows):
    """Return the rows of the reduced echelon form, in fractions, without rows of zeros."""
    work = [[Fraction(entry) for entry in row] for row in rows]
    done = 0
    for column in range(len(work[0]) if work else 0):
        at = next((k for k in range(done, len(work)) if work[k][column] != 0), None)
        if at is None:
            continue
        work[done], work[at] = work[at], work[done]
        work[done] = [entry / work[done][column] for entry in work[done]]
        for k in range(len(work)):
            if k != done:
                work[k] = [a - work[k][column] * b for a, b in zip(work[k], work[done])]
        done += 1
    return work[:done]


def rank_by_words(rows):
    """Return the rank of a list of rows of integers."""
    work = list(rows)
    rank = 0
    while work:
        lead = next((row for row in work if any(row)), None)
        if lead is None:
            break
        at = next(k for k, entry in enumerate(lead) if entry != 0)
        work.remove(lead)
        work = [[lead[at] * a - row[at] * b for a, b in zip(row, lead)] for row in work]
        rank += 1
    return rank


def whole(value):
    """Tell whether a value is an integer."""
    return isinstance(value, int) and not isinstance(value, bool)


def whole_row(length, value):
    """Tell whether a value is a tuple of so many integers."""
    return isinstance(value, tuple) and len(value) == length and all(whole(entry) for entry in value)


def point_by_words(d, value):
    """Tell whether a value is a point."""
    return whole_row(d + 1, value) and value[0] > 0 and reduce(math.gcd, value) == 1


def inequality_by_words(d, value):
    """Tell whether a value is an inequality."""
    return whole_row(d + 1, value) and set(value[1:]) != {0} and reduce(math.gcd, value) == 1


def weights_by_words(length, value):
    """Tell whether a value is weights."""
    return whole_row(length, value) and all(entry >= 0 for entry in value)


def words_of(value, word, length):
    """Tell whether a value is a tuple of this length with a word first."""
    return isinstance(value, tuple) and len(value) == length and isinstance(value[0], str) and value[0] == word


def satisfied(rows, point):
    """Tell whether a point satisfies a system."""
    return all(product_of(row, point) >= 0 for row in rows)


def right_empty(rows, weights):
    """Tell whether weights show that a system is empty."""
    if not weights_by_words(len(rows), weights):
        return False
    total = weighted(weights, rows)
    return total[0] < 0 and set(total[1:]) == {0}


def right_loads(d, rows, loads):
    """Tell whether loads and the rank show that a system is bounded."""
    if not weights_by_words(len(rows), loads) or min(loads) < 1:
        return False
    return set(weighted(loads, rows)[1:]) == {0} and rank_by_words([row[1:] for row in rows]) == d


def right_case(d, rows, value):
    """Tell whether a value is a right case paper, by the words of point 3.2."""
    if words_of(value, "empty", 2):
        return right_empty(rows, value[1])
    if words_of(value, "unbounded", 3):
        _, point, direction = value
        if not point_by_words(d, point) or not satisfied(rows, point) or not whole_row(d, direction):
            return False
        return set(direction) != {0} and all(product_of(row[1:], direction) >= 0 for row in rows)
    if words_of(value, "flat", 4):
        _, point, weights, loads = value
        if not point_by_words(d, point) or not satisfied(rows, point) or not weights_by_words(len(rows), weights):
            return False
        return set(weights) != {0} and set(weighted(weights, rows)) == {0} and right_loads(d, rows, loads)
    if words_of(value, "full", 3):
        _, point, loads = value
        if not point_by_words(d, point) or not all(product_of(row, point) > 0 for row in rows):
            return False
        return right_loads(d, rows, loads)
    return False


def right_following(d, rows, inequality, value):
    """Tell whether a value is a right following paper, by the words of point 3.4."""
    if words_of(value, "yes", 4):
        _, weights, t, k = value
        if not weights_by_words(len(rows), weights) or not whole(t) or not whole(k) or t < 1 or k < 0:
            return False
        total = list(weighted(weights, rows))
        total[0] += k
        return [t * entry for entry in inequality] == total
    if words_of(value, "none", 2):
        return right_empty(rows, value[1])
    if words_of(value, "no", 2):
        return point_by_words(d, value[1]) and satisfied(rows, value[1]) and product_of(inequality, value[1]) < 0
    return False


def multiple_by_words(total, point):
    """Tell whether a sum of points is a multiple of a point, other than by 0."""
    return total[0] > 0 and all(a * point[0] == b * total[0] for a, b in zip(total, point))


def reaches(points, weights, point):
    """Tell whether weights, not all 0, lead from points to a point."""
    if not weights_by_words(len(points), weights) or set(weights) == {0}:
        return False
    return multiple_by_words(weighted(weights, points), point)


def parts(d, points, value, point):
    """Tell whether an inequality holds at points, and not at a further one."""
    return inequality_by_words(d, value) and satisfied_everywhere(value, points) and product_of(value, point) < 0


def satisfied_everywhere(inequality, points):
    """Tell whether an inequality holds at all points."""
    return all(product_of(inequality, point) >= 0 for point in points)


def right_paper(d, points, question, value):
    """Tell whether a value is a right paper for a question, by the words of point 5.2."""
    if not words_of(value, "yes", 2) and not words_of(value, "no", 2):
        return False
    return RIGHT[question[0]](d, points, question, value[0] == "yes", value[1])


def right_inside(d, points, question, yes, data):
    if yes:
        return reaches(points, data, question[1])
    return parts(d, points, data, question[1])


def right_corner(d, points, question, yes, data):
    at = question[1]
    if not yes:
        return reaches(points, data, points[at]) and data[at] == 0
    if len(points) == 1 and isinstance(data, tuple) and data == ():
        return True
    return parts(d, points[:at] + points[at + 1:], data, points[at])


def right_face(d, points, question, yes, data):
    indexes = question[1]
    if yes:
        if not inequality_by_words(d, data) or not satisfied_everywhere(data, points):
            return False
        return tuple(k for k, point in enumerate(points) if product_of(data, point) == 0) == indexes
    if not isinstance(data, tuple) or len(data) != 2:
        return False
    if not weights_by_words(len(points), data[0]) or not weights_by_words(len(points), data[1]):
        return False
    rest = [k for k in range(len(points)) if k not in indexes]
    if any(data[0][k] for k in rest) or not any(data[1][k] for k in rest):
        return False
    return weighted(data[0], points) == weighted(data[1], points)


def right_meets(d, points, question, yes, data):
    others = question[1]
    if yes:
        if not isinstance(data, tuple) or len(data) != 2:
            return False
        if not weights_by_words(len(points), data[0]) or not weights_by_words(len(others), data[1]):
            return False
        return any(data[0] + data[1]) and weighted(data[0], points) == weighted(data[1], others)
    if not inequality_by_words(d, data) or not satisfied_everywhere(data, points):
        return False
    return all(product_of(data, other) < 0 for other in others)


def right_within(d, points, question, yes, data):
    _, inequality, bound = question
    greater = [k for k, point in enumerate(points)
               if Fraction(product_of(inequality, point), point[0]) > Fraction(*bound)]
    if yes:
        return isinstance(data, tuple) and data == () and greater == []
    return whole(data) and data in greater


RIGHT = {"inside": right_inside, "corner": right_corner, "face": right_face, "meets": right_meets,
         "within": right_within}


def some_row(source, length, most):
    """Return a random tuple of integers of an absolute value up to a number."""
    return tuple(source.randint(-most, most) for _ in range(length))


def some_point(source, d, most):
    """Return a random point."""
    return divided((source.randint(1, source.choice([1, most])),) + some_row(source, d, most))


def some_inequality(source, d, most):
    """Return a random inequality."""
    while True:
        row = some_row(source, d + 1, most)
        if set(row[1:]) != {0}:
            return divided(row)


def some_points(source, d, many, most):
    """Return a random list of points, some of which may be equal."""
    points = [some_point(source, d, most) for _ in range(many)]
    if source.random() < 0.2:
        points[source.randrange(many)] = source.choice(points)
    return points


def some_system(source, d, many, most):
    """Return a random system, some inequalities of which may be equal or opposite."""
    rows = [some_inequality(source, d, most) for _ in range(many)]
    if source.random() < 0.3:
        rows[source.randrange(many)] = source.choice(rows)
    if source.random() < 0.3:
        rows[source.randrange(many)] = tuple(-entry for entry in source.choice(rows))
    if source.random() < 0.3:
        rows += box_rows(d, source.choice([1, 2, most]))
    return rows


def axis_row(d, first, at, entry):
    """Return the inequality with a first entry and one other entry that is not 0."""
    return (first,) + (0,) * at + (entry,) + (0,) * (d - at - 1)


def box_rows(d, bound):
    """Return the inequalities that hold where all coordinates are between -bound and bound."""
    return [axis_row(d, bound, at, entry) for at in range(d) for entry in (1, -1)]


def corner_rows(d):
    """Return the inequalities of the points whose coordinates are all at least 0."""
    return [axis_row(d, 0, at, 1) for at in range(d)]


def systems_of(d):
    """Return a dict with systems of each case."""
    box = box_rows(d, 2)
    sum_up = (-1,) + (1,) * d
    sum_down = (1,) + (-1,) * d
    return {
        "full": [box, box + box, corner_rows(d) + [sum_down], box + [axis_row(d, 7, 0, 1)], box + [sum_up],
                 box_rows(d, 9999)],
        "flat": [box + [axis_row(d, -2, 0, 1)], box + [sum_up, sum_down], box_rows(d, 0), box_rows(d, 0) * 2,
                 corner_rows(d) + [(0,) + (-1,) * d], box + [axis_row(d, -1, d - 1, 2), axis_row(d, 1, d - 1, -2)]],
        "empty": [box + [axis_row(d, -3, 0, 1)], [axis_row(d, -1, 0, 1), axis_row(d, 0, 0, -1)],
                  [sum_up, (0,) + (-1,) * d], box + [(-2 * d - 1,) + (1,) * d],
                  corner_rows(d) + [(-1,) + (-1,) * d] * 2],
        "unbounded": [corner_rows(d), [sum_up], [sum_up, sum_up], box[1:], [axis_row(d, -9999, 0, 1)],
                      corner_rows(d) + [sum_up]] + ([box[2:], box[2:] + [axis_row(d, 0, 1, 1), axis_row(d, 0, 1, -1)],
                                                     [sum_up, sum_down]] if d > 1 else []),
    }


def known_systems():
    """Return a list of triples: a dimension, a system, and its case."""
    return [(d, rows, word) for d in range(1, 5) for word, found in systems_of(d).items() for rows in found]


def source_of(number):
    """Return a source of random numbers that is the same in each run."""
    return random.Random(number)


def kernel_by_words(rows):
    """Return an integer vector whose products with d rows of d + 1 entries are 0, of zeros if their rank is less."""
    minors = [det_by_words([row[:k] + row[k + 1:] for row in rows]) for k in range(len(rows) + 1)]
    return divided(tuple((-1) ** k * minor for k, minor in enumerate(minors)))


def facets_by_words(d, points):
    """Return the ascending list of the facets of the hull of points, from all choices of d of them."""
    found = set()
    for chosen in itertools.combinations(sorted(set(points)), d):
        row = kernel_by_words(chosen)
        if any(row):
            for turned in (row, tuple(-entry for entry in row)):
                if satisfied_everywhere(turned, points):
                    found.add(turned)
    return sorted(found)


def vertices_by_words(d, points):
    """Return those points that are the only common point of the facets that are tight at them."""
    facets = facets_by_words(d, points)
    return [point for point in sorted(set(points))
            if rank_by_words([facet for facet in facets if product_of(facet, point) == 0]) == d]


def is_flat_list(d, points):
    """Tell whether all points lie in a common plane."""
    return rank_by_words(points) <= d


def moved_points(source, d, points):
    """Return the images of points under a random map that keeps shapes, in a random order."""
    while True:
        rows = [some_row(source, d, 3) for _ in range(d)]
        if rank_by_words(rows) == d:
            break
    step = some_row(source, d, 5)
    images = []
    for point in points:
        image = weighted(point[1:], rows)
        images.append(divided((point[0],) + tuple(a + point[0] * b for a, b in zip(image, step))))
    source.shuffle(images)
    return images


def det_by_words(rows):
    """Return the determinant of a square matrix, from its first row."""
    if len(rows) == 1:
        return rows[0][0]
    if len(rows) == 2:
        return rows[0][0] * rows[1][1] - rows[0][1] * rows[1][0]
    minors = [[row[:k] + row[k + 1:] for row in rows[1:]] for k in range(len(rows))]
    return sum((-1) ** k * entry * det_by_words(minors[k]) for k, entry in enumerate(rows[0]) if entry != 0)


def corners_by_words(d, rows):
    """Return the ascending list of the vertices of the points that satisfy a bounded system, flat or not."""
    found = set()
    for chosen in itertools.combinations(sorted(set(rows)), d):
        point = kernel_by_words(chosen)
        if point[0] < 0:
            point = tuple(-entry for entry in point)
        if point[0] > 0 and satisfied(rows, point):
            found.add(point)
    return sorted(found)


def exact(point):
    """Return the coordinates of a point as fractions of Python."""
    return tuple(Fraction(entry, point[0]) for entry in point[1:])


def point_of(values):
    """Return the point with fractions of Python as coordinates."""
    common = math.lcm(*[Fraction(value).denominator for value in values])
    return (common,) + tuple(int(value * common) for value in values)


def pair_of(value):
    """Return a fraction of Python as a pair of integers."""
    return (Fraction(value).numerator, Fraction(value).denominator)


def cell_volume_by_words(d, chosen):
    """Return the volume of the hull of d + 1 points."""
    bottom = math.factorial(d)
    for point in chosen:
        bottom *= point[0]
    return Fraction(abs(det_by_words(chosen)), bottom)


def placed_cells(d, points):
    """Return cells of a list of points that is not flat: each point is put to all sides that it sees from outside.

    A side is a tuple of indexes, kept together with the index of a point on its inner side.
    """
    order = []
    for k in range(len(points)):
        if rank_by_words([points[i] for i in order + [k]]) > len(order):
            order.append(k)
    cells = [tuple(order)]
    sides = {tuple(i for i in order if i != k): k for k in order}
    for k in range(len(points)):
        if k in order:
            continue
        seen = [(side, inner) for side, inner in sides.items() if sees(points, side, inner, k)]
        fresh = {}
        for side, inner in seen:
            cells.append(side + (k,))
            del sides[side]
            for i in side:
                outer = tuple(sorted([j for j in side if j != i] + [k]))
                # A side between two new cells is not at the border.
                if outer in fresh:
                    fresh[outer] = None
                else:
                    fresh[outer] = i
        sides.update({side: inner for side, inner in fresh.items() if inner is not None})
    return [tuple(sorted(cell)) for cell in cells]


def sees(points, side, inner, k):
    """Tell whether a point lies strictly beyond a side."""
    rows = [points[i] for i in side]
    return det_by_words(rows + [points[inner]]) * det_by_words(rows + [points[k]]) < 0


def volume_by_words(d, points):
    """Return the volume of the hull of points that are not flat."""
    return sum(cell_volume_by_words(d, [points[k] for k in cell]) for cell in placed_cells(d, points))


def lattice_by_words(d, points, strict):
    """Return the ascending list of the lattice points in the hull of points, or of those inside."""
    facets = facets_by_words(d, points)
    ranges = []
    for k in range(d):
        values = [exact(point)[k] for point in points]
        ranges.append(range(math.ceil(min(values)), math.floor(max(values)) + 1))
    least = 1 if strict else 0
    return [(1,) + rest for rest in itertools.product(*ranges)
            if all(product_of(facet, (1,) + rest) >= least for facet in facets)]


def tight_everywhere(d, inequality, points):
    """Tell whether a value is an inequality that is tight at all points."""
    return inequality_by_words(d, inequality) and all(product_of(inequality, point) == 0 for point in points)


def hull_rows_by_words(d, points):
    """Return a system whose solutions are the hull of points, also if it is flat."""
    spots = list(points)
    planes = []
    # Further points outside of its plane make a greater hull, which meets the plane in the hull alone.
    for extra in [(1,) + (0,) * d] + [axis_row(d, 1, at, 1) for at in range(d)]:
        if rank_by_words(spots + [extra]) > rank_by_words(spots):
            spots.append(extra)
    first = rank_by_words(points)
    for k in range(first, d + 1):
        others = [p for p in spots if p != spots[len(spots) - 1 - (k - first)]]
        planes.append(kernel_by_words(independent_by_words(others)))
    return facets_by_words(d, spots) + planes + [tuple(-entry for entry in row) for row in planes]


def independent_by_words(rows):
    """Return the first rows that have the rank of all."""
    chosen = []
    for row in rows:
        if rank_by_words(chosen + [row]) > len(chosen):
            chosen.append(row)
    return chosen
