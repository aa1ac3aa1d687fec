"""Tests for values of any kind: whether they have a form."""

from math import gcd


def is_integer(value):
    """Tell whether a value is an integer; True and False are none."""
    return isinstance(value, int) and not isinstance(value, bool)


def is_vector(length, value):
    """Tell whether a value is a tuple of so many integers."""
    return isinstance(value, tuple) and len(value) == length and all([is_integer(entry) for entry in value])


def is_weights(length, value):
    """Tell whether a value is weights for a list of this length."""
    return is_vector(length, value) and all([entry >= 0 for entry in value])


def is_fraction(value):
    """Tell whether a value is a fraction."""
    return is_vector(2, value) and value[1] > 0 and gcd(value[0], value[1]) == 1


def is_index(length, value):
    """Tell whether a value is an index of a list of this length."""
    return is_integer(value) and 0 <= value < length


def is_indexes(length, value):
    """Tell whether a value is an ascending tuple of indexes of a list of this length."""
    if not isinstance(value, tuple) or not all([is_index(length, entry) for entry in value]):
        return False
    return all([value[k] < value[k + 1] for k in range(len(value) - 1)])


def is_worded(value, word, length):
    """Tell whether a value is a tuple of this length that begins with a word."""
    if not isinstance(value, tuple) or len(value) != length:
        return False
    return isinstance(value[0], str) and value[0] == word
