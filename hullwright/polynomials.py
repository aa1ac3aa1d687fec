"""Polynomials in one variable, as lists of fractions: their coefficients, the constant one first."""

from math import lcm

from hullwright.known import powers
from hullwright.numbers import over, plus, times
from hullwright.vectors import solve


def polynomial_through(places, values):
    """Return the polynomial with given values, fractions, at different integers, as many as it has coefficients."""
    common = 1
    for _, b in values:
        common = lcm(common, b)
    right = tuple([a * (common // b) for a, b in values])
    found = solve([powers(len(places) - 1, place) for place in places], right)
    return [over(x, (common, 1)) for x in found]


def polynomial_value(coefficients, x):
    """Return the value of a polynomial at a fraction."""
    value = (0, 1)
    for coefficient in reversed(coefficients):
        value = plus(times(value, x), coefficient)
    return value
