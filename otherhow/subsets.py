"""Least sets of indexes (points 25 and 29)."""

from itertools import combinations


def least_sets(many, fits):
    """Return the sets of indexes below `many` that fit while none of their proper subsets does.

    They are ascending lists, ordered by length, then by the first number that
    differs. What holds a set that fits has to fit, too.
    """
    found = []
    for length in range(many + 1):
        for indexes in combinations(list(range(many)), length):
            chosen = list(indexes)
            if not any(is_within(smaller, chosen) for smaller in found) and fits(chosen):
                found.append(chosen)
    return found


def is_within(smaller, chosen):
    """Return whether all indexes of a set are in another one."""
    return all(index in chosen for index in smaller)
