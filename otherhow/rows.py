"""Rows of integers below bounds, the first number going slowest (point 5).

The bounds are a list of integers of at least 1. A row has as many integers,
each from 0 to its bound minus 1.
"""


def size(bounds):
    """Return how many rows there are below the bounds."""
    many = 1
    for bound in bounds:
        many = many * bound
    return many


def place(bounds, row):
    """Return the index of a row."""
    at = 0
    for bound, number in zip(bounds, row):
        at = at * bound + number
    return at


def row_at(bounds, at):
    """Return the row with an index."""
    row = []
    for bound in reversed(bounds):
        row.append(at % bound)
        at = at // bound
    return row[::-1]
