"""Fractions: tuples (a, b) in lowest terms with b > 0."""

from math import gcd

from hullwright.digits import MOST_DIGITS, read_integer, write_integer
from hullwright.errors import BadNumber, BadText


def fraction(a, b):
    """Return the fraction a / b in lowest terms."""
    if b == 0:
        raise BadNumber("the divisor is 0")
    common = gcd(a, b)
    if b < 0:
        common = -common
    return (a // common, b // common)


def plus(x, y):
    """Return the sum of two fractions."""
    return fraction(x[0] * y[1] + y[0] * x[1], x[1] * y[1])


def minus(x, y):
    """Return the difference of two fractions."""
    return fraction(x[0] * y[1] - y[0] * x[1], x[1] * y[1])


def times(x, y):
    """Return the product of two fractions."""
    return fraction(x[0] * y[0], x[1] * y[1])


def over(x, y):
    """Return the quotient of two fractions."""
    return fraction(x[0] * y[1], x[1] * y[0])


def total(values):
    """Return the sum of a list of fractions."""
    # Two by two, because the divisors of long sums grow.
    rest = [(0, 1)] + values
    while len(rest) > 1:
        pairs = [plus(rest[k], rest[k + 1]) for k in range(0, len(rest) - 1, 2)]
        rest = pairs + rest[2 * len(pairs):]
    return rest[0]


def sign(x):
    """Return the sign of a fraction: 1, 0 or -1."""
    if x[0] > 0:
        return 1
    if x[0] < 0:
        return -1
    return 0


def compare(x, y):
    """Return the sign of the difference of two fractions."""
    return sign(minus(x, y))


def greatest_of(values):
    """Return the greatest fraction of a list."""
    best = values[0]
    for value in values:
        if compare(value, best) > 0:
            best = value
    return best


def least_of(values):
    """Return the least fraction of a list."""
    best = values[0]
    for value in values:
        if compare(value, best) < 0:
            best = value
    return best


def floor(x):
    """Return the greatest integer that is at most a fraction."""
    return x[0] // x[1]


def write_fraction(x):
    """Return the text of a fraction."""
    if x[1] == 1:
        return write_integer(x[0])
    return write_integer(x[0]) + "/" + write_integer(x[1])


def read_fraction(text):
    """Return the fraction with a text."""
    top, bar, bottom = text.partition("/")
    a = read_integer(top, MOST_DIGITS)
    if bar == "":
        return (a, 1)
    b = read_integer(bottom, MOST_DIGITS)
    if b < 2 or gcd(a, b) != 1:
        raise BadText("not the text of a fraction in lowest terms")
    return (a, b)
