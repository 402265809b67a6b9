"""Fractions: tuples (p, q) in lowest terms, with q at least 1 (point 3)."""

from math import gcd

ZERO = (0, 1)
ONE = (1, 1)


def ratio(p, q):
    """Return the fraction p by q; q is not 0."""
    if q < 0:
        return ratio(-p, -q)
    shared = gcd(p, q)
    return (p // shared, q // shared)


def add(a, b):
    """Return the sum."""
    return ratio(a[0] * b[1] + b[0] * a[1], a[1] * b[1])


def sub(a, b):
    """Return the difference."""
    return ratio(a[0] * b[1] - b[0] * a[1], a[1] * b[1])


def mul(a, b):
    """Return the product."""
    return ratio(a[0] * b[0], a[1] * b[1])


def neg(a):
    """Return the negative."""
    return (-a[0], a[1])


def div(a, b):
    """Return a divided by b, which is not 0."""
    return ratio(a[0] * b[1], a[1] * b[0])


def less(a, b):
    """Return whether a is less than b."""
    return a[0] * b[1] < b[0] * a[1]


def at_most(a, b):
    """Return whether a is at most b."""
    return a[0] * b[1] <= b[0] * a[1]


def added(numbers):
    """Return the sum of a list; 0 of an empty one."""
    total = ZERO
    for number in numbers:
        total = add(total, number)
    return total


def dot(a, b):
    """Return the sum of the products of two lists of the same length."""
    return added([mul(one, other) for one, other in zip(a, b)])


def is_fraction(value):
    """Return whether a value of any kind is a fraction."""
    if not isinstance(value, tuple) or len(value) != 2:
        return False
    p, q = value
    return is_whole(p) and is_whole(q) and q >= 1 and gcd(p, q) == 1


def is_whole(value):
    """Return whether a value of any kind is an integer, which True and False are not."""
    return isinstance(value, int) and not isinstance(value, bool)
