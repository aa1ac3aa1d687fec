"""Choices of items, and the search for rows of indexes that are found item by item."""

from itertools import combinations


def choices(row, many):
    """Return the list of all choices of so many items of a list, in their order."""
    return list(combinations(row, many))


def matching_rows(many, fits, only_one):
    """Return the rows of all numbers below many, in any order, each start of which fits; at most one if so wanted."""
    found = []
    waiting = [()]
    while waiting != [] and not (only_one and found != []):
        start = waiting.pop()
        if len(start) == many:
            found.append(start)
        else:
            longer = [start + (k,) for k in range(many) if k not in start]
            waiting.extend([row for row in longer if fits(row)])
    return found


def in_place(order, images):
    """Return the images of 0, 1, .., if the images of all numbers are given in an order of them."""
    return tuple([image for _, image in sorted(list(zip(order, images)))])
