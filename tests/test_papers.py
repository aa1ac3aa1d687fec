"""Part 20: texts of values, and books of papers."""

import re
import sys
import unittest

from hullwright.errors import BadQuestion, BadText
from hullwright.papers import book_faults, read_book, read_value, write_book, write_value
from hullwright.points import write_point
from hullwright.questions import answer_paper, check, is_question
from tests.support import nested, right_paper, some_inequality, some_point, some_points, source_of

BOOK = "points 1\npoint 0\npoint 2\n? (inside (1 1))\n! (yes (1 1))\n? (corner 0)\n! (no (0 1))\n"

WORD = re.compile(r"[a-z][a-z0-9_]*\Z", re.ASCII)
INTEGER = re.compile(r"(0|-?[1-9][0-9]*)\Z", re.ASCII)


def text_by_words(value):
    """Return the text of a value."""
    if isinstance(value, tuple):
        return "(" + " ".join(text_by_words(entry) for entry in value) + ")"
    return str(value)


def value_by_words(text, depth=0):
    """Return the value of a text, or raise ValueError."""
    if WORD.match(text):
        return text
    if INTEGER.match(text) and len(text.lstrip("-")) <= 200:
        return int(text)
    if len(text) < 2 or text[0] != "(" or text[-1] != ")" or depth == 50:
        raise ValueError(text)
    items, height = [""], 0
    for sign in text[1:-1]:
        height += (sign == "(") - (sign == ")")
        if height < 0:
            raise ValueError(text)
        if sign == " " and height == 0:
            items.append("")
        else:
            items[-1] += sign
    if items == [""]:
        return ()
    return tuple(value_by_words(item, depth + 1) for item in items)


def some_value(source, depth):
    """Return a random value."""
    kind = source.choice(["integer", "word", "tuple", "tuple"]) if depth > 0 else source.choice(["integer", "word"])
    if kind == "integer":
        return source.choice([-1, 1]) * source.randint(0, source.choice([3, 99, 10 ** 200 - 1]))
    if kind == "word":
        return source.choice("abz") + "".join(source.choice("az09_") for _ in range(source.choice([0, 0, 1, 5])))
    return tuple(some_value(source, depth - 1) for _ in range(source.choice([0, 1, 1, 2, 4])))


class ValueTest(unittest.TestCase):
    def test_known(self):
        for value, text in ((0, "0"), (-7, "-7"), ("yes", "yes"), ("a_1_", "a_1_"), ((), "()"), ((1,), "(1)"),
                            (((),), "(())"), (("inside", (1, 1)), "(inside (1 1))"),
                            (("no", ((1, -2), ()), 3), "(no ((1 -2) ()) 3)"), (10 ** 199, "1" + "0" * 199)):
            self.assertEqual(write_value(value), text)
            self.assertEqual(read_value(text), value)
            self.assertIs(type(read_value(text)), type(value))

    def test_random(self):
        source = source_of(431)
        for _ in range(400):
            value = some_value(source, source.randint(0, 5))
            text = write_value(value)
            self.assertEqual(text, text_by_words(value))
            self.assertEqual(read_value(text), value)

    def test_bad_texts(self):
        for text in ("", " ", "( )", "(a  b)", "(a b", "a b)", "a b", "a)", "()()", "() ()", "(a )", "( a)", " a", "a ",
                     "(a)b", "a(b)", "(a(b))", "((a)b)", "(a ())b", ")(", ")", "(", "((", "))", "-0", "01", "-01", "00",
                     "+1", "--1", "-", "1-", "1a", "1_000", "1.0", "1/2", "A", "aB", "_a", "a-b", "a.b", "a,b", "a\n",
                     "\na", "(a\nb)", "(a\tb)", "\t", "\n", "(1,2)", "[1]", "'a'", "\u0661", "\u00b2", "\u00e4",
                     "a\u0661", "(1\u00a02)", "True", "None", "\x00"):
            with self.assertRaises(BadText, msg=repr(text)):
                read_value(text)

    def test_changed_texts(self):
        source = source_of(432)
        seen = set()
        for _ in range(3000):
            text = write_value(some_value(source, 3))
            signs = list(text[:60])
            for _ in range(source.randint(1, 2)):
                at = source.randrange(len(signs) + 1)
                signs[at:at + source.randint(0, 1)] = source.choice(["", "(", ")", " ", "0", "-", "a", "_", "\n"])
            changed = "".join(signs)
            try:
                right = value_by_words(changed)
            except ValueError:
                self.assertRaises(BadText, read_value, changed)
                seen.add(False)
            else:
                self.assertEqual(read_value(changed), right)
                seen.add(True)
        self.assertEqual(seen, {True, False})

    def test_depth(self):
        for depth in (1, 49, 50):
            value = nested(tuple, depth - 1)
            text = "(" * depth + ")" * depth
            self.assertEqual(write_value(value), text)
            self.assertEqual(read_value(text), value)
            self.assertEqual(read_value("(" * depth + "a" + ")" * depth), nested_word(depth))
        for depth in (51, 52, 1000, 100000):
            self.assertRaises(BadText, read_value, "(" * depth + ")" * depth)
            self.assertRaises(BadText, read_value, "(" * depth + "a" + ")" * depth)
            self.assertRaises(BadText, read_value, "(" * depth)
            self.assertRaises(BadText, read_value, ")" * depth)
            self.assertRaises(BadText, read_value, "(a " + "(" * depth)
        # Many brackets beside each other are not nested.
        wide = "(" + " ".join(["()"] * 5000) + ")"
        self.assertEqual(read_value(wide), ((),) * 5000)

    def test_digits(self):
        for sign in ("", "-"):
            self.assertEqual(read_value(sign + "9" * 200), int(sign + "9" * 200))
            self.assertRaises(BadText, read_value, sign + "9" * 201)
            self.assertRaises(BadText, read_value, "(" + sign + "1" + "0" * 200 + ")")
            self.assertRaises(BadText, read_value, sign + "9" * 10000)
        self.assertEqual(read_value("a" * 10000), "a" * 10000)

    def test_long_texts(self):
        limit = sys.getrecursionlimit()
        for text in ("(" * 300000, "()" * 300000, "(a" * 300000, "1" * 300000, "a " * 300000, " " * 300000,
                     "(" + "a " * 300000, "(" * 300000 + ")" * 300000):
            self.assertRaises(BadText, read_value, text)
        self.assertEqual(sys.getrecursionlimit(), limit)
        self.assertEqual(read_value("(" + "7 " * 100000 + "7)"), (7,) * 100001)


def nested_word(depth):
    """Return a word inside of so many tuples."""
    value = "a"
    for _ in range(depth):
        value = (value,)
    return value


def some_questions(source, d, points):
    """Return random questions about a list of points, of all kinds."""
    many = len(points)
    found = [("inside", some_point(source, d, 5)), ("corner", source.randrange(many)),
             ("meets", tuple(some_points(source, d, source.randint(1, 3), 5))),
             ("within", some_inequality(source, d, 5), (source.randint(-9, 9), 1))]
    if many > 1:
        chosen = source.sample(range(many), source.randint(1, many - 1))
        found.append(("face", tuple(sorted(chosen))))
    source.shuffle(found)
    return found


class WriteBookTest(unittest.TestCase):
    def test_random(self):
        source = source_of(433)
        for _ in range(60):
            d = source.randint(1, 4)
            points = some_points(source, d, source.randint(1, 8), source.choice([3, 10 ** 10 - 1]))
            questions = some_questions(source, d, points)
            given = (list(points), list(questions))
            text = write_book(d, points, questions)
            self.assertEqual((points, questions), given)
            lines = text.split("\n")
            self.assertEqual(lines.pop(), "")
            self.assertEqual(lines[0], f"points {d}")
            self.assertEqual(lines[1:len(points) + 1], ["point " + write_point(point) for point in points])
            entries = lines[len(points) + 1:]
            self.assertEqual(entries[::2], ["? " + text_by_words(question) for question in questions])
            for question, line in zip(questions, entries[1::2]):
                self.assertEqual(line[:2], "! ")
                self.assertTrue(right_paper(d, points, question, value_by_words(line[2:])))
            self.assertEqual(book_faults(text), [])
            d_read, points_read, entries_read = read_book(text)
            self.assertEqual((d_read, points_read), (d, points))
            self.assertEqual([question for question, _ in entries_read], questions)
            self.assertEqual(len(entries), 2 * len(questions))

    def test_without_questions(self):
        self.assertEqual(write_book(2, [(2, 1, 4)], []), "points 2\npoint 1/2 2\n")
        self.assertEqual(read_book("points 2\npoint 1/2 2\n"), (2, [(2, 1, 4)], []))
        self.assertEqual(book_faults("points 2\npoint 1/2 2\n"), [])

    def test_bad_questions(self):
        points = [(1, 0), (1, 2)]
        for question in (("inside", (2, 2)), ("inside", (1, 0, 0)), ("corner", 2), ("corner", -1), ("corner", True),
                         ("face", ()), ("face", (0, 1)), ("meets", ()), ("within", (1, 1), (2, 4)), (), None, "inside",
                         ["corner", 0], 7):
            self.assertRaises(BadQuestion, write_book, 1, points, [question])
            self.assertRaises(BadQuestion, write_book, 1, points, [("corner", 0), question])


class ReadBookTest(unittest.TestCase):
    def test_known(self):
        self.assertEqual(read_book(BOOK), (1, [(1, 0), (1, 2)], [
            (("inside", (1, 1)), ("yes", (1, 1))), (("corner", 0), ("no", (0, 1)))]))
        d, points, entries = read_book(BOOK)
        self.assertIsInstance(points, list)
        self.assertIsInstance(entries, list)
        self.assertIsInstance(entries[0], tuple)
        self.assertEqual(book_faults(BOOK), [1])

    def test_any_values(self):
        head = "points 1\npoint 0\npoint 2\n"
        deep = "(" * 50 + ")" * 50
        values = ["7", "a", "()", "(a ((b)) 0)", "(inside)", "(inside 1)", "(inside (2 2))", "(corner 2)", "(corner -1)",
                  "(corner 0 0)", "(yes ())", "(corner (0))", "(face ())", "(meets (1 1))", "(within (1 1) 3)", deep]
        text = head + "".join(f"? {value}\n! {other}\n" for value in values for other in ("7", "(yes ())", deep))
        self.assertEqual(len(read_book(text)[2]), 3 * len(values))
        self.assertEqual(book_faults(text), list(range(3 * len(values))))
        text = head + "".join(f"? (corner 0)\n! {value}\n" for value in values)
        self.assertEqual(book_faults(text), list(range(len(values))))

    def test_faults(self):
        source = source_of(434)
        for _ in range(40):
            d = source.randint(1, 3)
            points = some_points(source, d, source.randint(1, 6), 3)
            entries = []
            for question in some_questions(source, d, points):
                entries.append((question, answer_paper(d, points, question)))
            # Papers of other questions, and questions about other lists.
            entries += [(first[0], second[1]) for first in entries for second in entries]
            entries += [(("corner", len(points)), entries[0][1]), (("inside", (1,) * (d + 2)), ("yes", (1,)))]
            source.shuffle(entries)
            text = f"points {d}\n" + "".join(f"point {write_point(point)}\n" for point in points)
            text += "".join(f"? {text_by_words(q)}\n! {text_by_words(p)}\n" for q, p in entries)
            self.assertEqual(read_book(text), (d, points, entries))
            right = [k for k, (question, paper) in enumerate(entries)
                     if not is_question(d, points, question) or not right_paper(d, points, question, paper)]
            self.assertEqual(book_faults(text), right)
            for k, (question, paper) in enumerate(entries):
                if is_question(d, points, question):
                    self.assertIs(check(d, points, question, paper), k not in right)

    def test_bad_texts(self):
        bad = ["", "\n", BOOK[:-1], BOOK + "\n", "\n" + BOOK, BOOK.replace("\n", "\r\n"), BOOK.replace("\n", "\n\n"),
               BOOK + "x", BOOK + " ", "points 1\n", "points 1", "points 0\npoint 0\n", "points 5\npoint 0 0 0 0 0\n",
               "points 01\npoint 0\n", "points 1 \npoint 0\n", "points\npoint 0\n", "points a\npoint 0\n",
               "points 2\npoint 0\n", "points 1\npoint 0 0\n", "points 1\npoint 2/4\n", "points 1\npoint \n",
               "points 1\npoint\n", "points 1\n point 0\n", "points 1\npoint  0\n", "points 1\npoint -0\n",
               "points 1\npoint " + "9" * 61 + "\n", "point 0\npoints 1\n", "point 0\n", "polytope 1\npoint 0\n",
               BOOK.replace("points", "Points"), BOOK.replace("? (", "?("), BOOK.replace("! (", "!("),
               BOOK.replace("? (", "?  ("), BOOK.replace("(yes", "( yes"), BOOK.replace("(1 1))\n!", "(1 1)\n!"),
               BOOK.replace("corner 0", "corner 00"), BOOK.replace("corner 0", "corner " + "1" * 201),
               BOOK.replace("corner 0", "corner " + "(" * 50 + ")" * 50), BOOK + "? (corner 0)\n",
               BOOK + "! (corner 0)\n", BOOK + "? \n! \n", BOOK + "point 3\n", "points 1\n? (corner 0)\n! (yes ())\n"]
        for text in bad:
            for function in (read_book, book_faults):
                with self.assertRaises(BadText, msg=repr(text)):
                    function(text)

    def test_lines_in_another_order(self):
        # Entries may stand in any order, and so may points; the other lines may not.
        lines = BOOK.split("\n")[:-1]
        for order, right in (((0, 2, 1, 3, 4, 5, 6), True), ((0, 1, 2, 5, 6, 3, 4), True), ((0, 1, 2, 3, 6, 5, 4), True),
                             ((0, 1, 3, 4, 2, 5, 6), False), ((0, 1, 2, 4, 3, 5, 6), False),
                             ((0, 1, 2, 3, 5, 4, 6), False), ((1, 0, 2, 3, 4, 5, 6), False),
                             ((0, 3, 4, 1, 2, 5, 6), False), ((0, 1, 2, 3, 4, 5), False), ((0, 1, 3, 4, 5, 6), True),
                             ((0, 3, 4, 5, 6), False), ((0, 1, 2, 3, 4), True)):
            text = "".join(lines[k] + "\n" for k in order)
            if right:
                self.assertIsInstance(read_book(text), tuple)
            else:
                self.assertRaises(BadText, read_book, text)
                self.assertRaises(BadText, book_faults, text)
