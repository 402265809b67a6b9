"""Copies that share no list with what they are made of."""


def copied(value):
    """Return a copy of a value in which each list is new, at any depth of lists and tuples."""
    if isinstance(value, list):
        return [copied(part) for part in value]
    if isinstance(value, tuple):
        return tuple([copied(part) for part in value])
    return value
