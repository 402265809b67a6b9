"""Tables of experiments, and data (points 15 to 17)."""

from otherhow.ratio import ONE, ZERO, at_most, is_fraction
from otherhow.rows import place, size
from otherhow.sentences import allows
from otherhow.ways import all_ways, outcome


def row_bounds(house, seen):
    """Return the list of the numbers of words of the variables that are seen."""
    return [len(house.words[variable]) for variable in seen]


def row_of(house, setting, seen, way):
    """Return the index of the row that holds of the way."""
    said = outcome(house, way, setting)
    return place(row_bounds(house, seen), [said[variable] for variable in seen])


def is_table(house, table):
    """Return whether the bounds of a table are as many as its rows and as point 16 says."""
    _, seen, bounds = table
    if not isinstance(bounds, list) or len(bounds) != size(row_bounds(house, seen)):
        return False
    return all(is_bound(pair) for pair in bounds)


def is_bound(pair):
    """Return whether a value is a tuple `(low, high)` as point 16 says."""
    if not isinstance(pair, tuple) or len(pair) != 2:
        return False
    low, high = pair
    if not is_fraction(low) or not is_fraction(high):
        return False
    return at_most(ZERO, low) and at_most(low, high) and at_most(high, ONE)


class Data:
    """A house, sentences and tables; `ways` are the ways that all sentences leave, in order."""

    def __init__(self, house, sentences, tables):
        self.house = house
        self.sentences = list(sentences)
        self.tables = [(list(setting), list(seen), list(bounds)) for setting, seen, bounds in tables]
        self.ways = [way for way in all_ways(house) if is_left(house, sentences, way)]


def is_left(house, sentences, way):
    """Return whether all sentences leave the way in."""
    return all(allows(house, sentence, way) for sentence in sentences)
