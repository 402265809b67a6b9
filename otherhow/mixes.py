"""Mixes: how large a part of the population answers in each way (points 14 and 17)."""

from otherhow.events import question_value
from otherhow.ratio import ONE, ZERO, add, added, at_most, div, dot, is_fraction
from otherhow.rows import size
from otherhow.tables import row_bounds, row_of


def is_mix(data, mix):
    """Return whether the list has a chance for each way of the data, from 0 on and together 1."""
    if not isinstance(mix, list) or len(mix) != len(data.ways):
        return False
    if not all(is_fraction(chance) and at_most(ZERO, chance) for chance in mix):
        return False
    return added(mix) == ONE


def row_chances(data, setting, seen, mix):
    """Return the list of the chances of an experiment's rows in the mix."""
    chances = [ZERO] * size(row_bounds(data.house, seen))
    for way, chance in zip(data.ways, mix):
        row = row_of(data.house, setting, seen, way)
        chances[row] = add(chances[row], chance)
    return chances


def agrees(data, mix):
    """Return whether it is a mix of the data and agrees."""
    return is_mix(data, mix) and all(lies_within(data, table, mix) for table in data.tables)


def lies_within(data, table, mix):
    """Return whether the chances of a table's rows in the mix lie within their bounds."""
    setting, seen, bounds = table
    chances = row_chances(data, setting, seen, mix)
    return all(at_most(low, chance) and at_most(chance, high) for chance, (low, high) in zip(chances, bounds))


def value_in(data, question, mix):
    """Return the question's value in the mix."""
    return dot([question_value(data.house, question, way) for way in data.ways], mix)


def as_mix(parts):
    """Return the mix whose chances are to each other as the parts are: from 0 on, and not all 0."""
    total = added(parts)
    return [div(part, total) for part in parts]
