"""Lines of programs whose columns are the ways of data, and the papers that their prices make."""

from otherhow.events import question_value
from otherhow.ratio import ONE, ZERO, less, neg
from otherhow.rows import size
from otherhow.tables import row_bounds, row_of


def marks(data, setting, seen):
    """Return for each row of an experiment a list with 1 for each way of which it holds, and 0 for the others."""
    held = [row_of(data.house, setting, seen, way) for way in data.ways]
    return [[ONE if row == at else ZERO for row in held] for at in range(size(row_bounds(data.house, seen)))]


def worths(data, question):
    """Return the question's value for each way."""
    return [question_value(data.house, question, way) for way in data.ways]


def mix_lines(data):
    """Return the lines that the mixes that agree fit, the one on the sum of all chances first."""
    lines = [([ONE] * len(data.ways), "equal", ONE)]
    for setting, seen, bounds in data.tables:
        for marked, (low, high) in zip(marks(data, setting, seen), bounds):
            if low == high:
                lines.append((marked, "equal", low))
            else:
                lines.append((marked, "least", low))
                lines.append((marked, "most", high))
    return lines


def read_paper(data, prices):
    """Return the paper that the prices of `mix_lines` make; what stands behind these prices does not matter."""
    at = 1
    listed = []
    for _, _, bounds in data.tables:
        pairs = []
        for low, high in bounds:
            if low == high:
                pairs.append(parted(prices[at]))
                at += 1
            else:
                pairs.append((prices[at], neg(prices[at + 1])))
                at += 2
        listed.append(pairs)
    return (prices[0], listed)


def parted(price):
    """Return the low price and the high price that a price of either sign is."""
    if less(price, ZERO):
        return (ZERO, neg(price))
    return (price, ZERO)
