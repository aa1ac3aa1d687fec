"""Books of papers: texts of values, and of questions about points with the papers that answer them."""

from hullwright.books import as_text
from hullwright.digits import read_integer, write_integer
from hullwright.errors import BadQuestion, BadText
from hullwright.points import read_point, write_point
from hullwright.questions import answer_paper, check, is_question

MOST_DIGITS_IN_VALUES = 200
MOST_BRACKETS = 50

LETTERS = "abcdefghijklmnopqrstuvwxyz"
WORD_SIGNS = "abcdefghijklmnopqrstuvwxyz0123456789_"
NUMBER_SIGNS = "-0123456789"

HEADS = {"points 1": 1, "points 2": 2, "points 3": 3, "points 4": 4}


def write_value(value):
    """Return the text of a value: an integer, a word, or a tuple of values."""
    if isinstance(value, tuple):
        return "(" + " ".join([write_value(entry) for entry in value]) + ")"
    if isinstance(value, str):
        return value
    return write_integer(value)


def read_value(text):
    """Return the value of a text."""
    reader = Reader()
    for token in tokens_of(text):
        reader.take(token)
    return reader.value()


def tokens_of(text):
    """Return the list of the brackets, the blanks, and what stands between them."""
    found = []
    start = 0
    for at, sign in enumerate(text):
        if sign in "( )":
            if start < at:
                found.append(text[start:at])
            found.append(sign)
            start = at + 1
    if start < len(text):
        found.append(text[start:])
    return found


class Reader:
    """What has been read of the text of a value."""

    def __init__(self):
        # The items so far: of the text, which has one, and of each tuple that is not at its end.
        self.rows = [[]]
        self.is_due = True

    def take(self, token):
        """Take a further token of the text."""
        if token == " ":
            self.need(not self.is_due and len(self.rows) > 1)
            self.is_due = True
        elif token == ")":
            # Behind a blank there must be an item, and so must there be behind the beginning of the text.
            self.need(len(self.rows) > 1 and (not self.is_due or self.rows[-1] == []))
            self.put(tuple(self.rows.pop()))
        else:
            self.need(self.is_due)
            if token == "(":
                self.need(len(self.rows) <= MOST_BRACKETS)
                self.rows.append([])
            else:
                self.put(plain_value(token))

    def need(self, holds):
        """Raise BadText if something does not hold."""
        if not holds:
            raise BadText("not the text of a value")

    def put(self, value):
        """Put a value behind the items of the innermost tuple."""
        self.rows[-1].append(value)
        self.is_due = False

    def value(self):
        """Return the value of the whole text."""
        self.need(len(self.rows) == 1 and not self.is_due)
        return self.rows[0][0]


def plain_value(text):
    """Return the integer or the word with a text."""
    if text[0] in NUMBER_SIGNS:
        return read_integer(text, MOST_DIGITS_IN_VALUES)
    if text[0] not in LETTERS or not all(sign in WORD_SIGNS for sign in text):
        raise BadText("not the text of an integer or a word")
    return text


def write_book(d, points, questions):
    """Return the book with a right paper for each question about a list of points."""
    if not all([is_question(d, points, question) for question in questions]):
        raise BadQuestion("not a question about the points")
    lines = [f"points {d}"] + ["point " + write_point(point) for point in points]
    for question in questions:
        lines.append("? " + write_value(question))
        lines.append("! " + write_value(answer_paper(d, points, question)))
    return as_text(lines)


def read_book(text):
    """Return the dimension, the list of the points and the list of the questions with their papers of a book."""
    lines = text.split("\n")
    if lines[0] not in HEADS or lines[-1] != "":
        raise BadText("not a book")
    d = HEADS[lines[0]]
    many = 1
    while lines[many].startswith("point "):
        many += 1
    points = [read_point(d, rest_behind("point ", line)) for line in lines[1:many]]
    # The line feed at the end leaves a last line without signs, so there are always two.
    entries = [read_entry(lines[k], lines[k + 1]) for k in range(many, len(lines) - 1, 2)]
    if points == []:
        raise BadText("there are no points")
    return (d, points, entries)


def read_entry(first, second):
    """Return the question and the paper of two lines."""
    return (read_value(rest_behind("? ", first)), read_value(rest_behind("! ", second)))


def rest_behind(start, line):
    """Return what stands in a line behind its start."""
    if not line.startswith(start):
        raise BadText("a line begins in another way")
    return line[len(start):]


def book_faults(text):
    """Return the ascending list of the indexes of the entries whose question or paper is not right."""
    d, points, entries = read_book(text)
    return [k for k, (question, paper) in enumerate(entries) if not is_right(d, points, question, paper)]


def is_right(d, points, question, paper):
    """Tell whether a value is a question about a list of points, and another one a right paper for it."""
    return is_question(d, points, question) and check(d, points, question, paper)
