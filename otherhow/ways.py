"""Ways: how one member of the population answers (points 8 and 9)."""

from otherhow.houses import answer_bounds, heard_bounds, way_count
from otherhow.rows import place, row_at, size


def way_at(house, at):
    """Return the way with an index: a list by variables of lists by heard rows of words."""
    answers = row_at(answer_bounds(house), at)
    way = []
    start = 0
    for variable in range(len(house.names)):
        end = start + size(heard_bounds(house, variable))
        way.append(answers[start:end])
        start = end
    return way


def all_ways(house):
    """Return the list of all ways."""
    return [way_at(house, at) for at in range(way_count(house))]


def outcome(house, way, setting):
    """Return the list of the words of all variables in the world of the setting."""
    chosen = dict(setting)
    said = []
    for variable in range(len(house.names)):
        if variable in chosen:
            said.append(chosen[variable])
        else:
            row = [said[heard] for heard in house.heard[variable]]
            said.append(way[variable][place(heard_bounds(house, variable), row)])
    return said
