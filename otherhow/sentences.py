"""Sentences on how one variable answers another leave ways out (points 10 and 11)."""

from otherhow.houses import heard_bounds, read_variable
from otherhow.reading import Reader
from otherhow.rows import place, row_at, size


def allows(house, sentence, way):
    """Return whether the sentence leaves the way in."""
    if sentence[0] == "never":
        _, variable, word, heard, other = sentence
        return word not in answers_to(house, variable, heard, other, way)
    kind, variable, heard = sentence
    # The order of words is transitive, so it is enough to compare each word with the next.
    for other in range(len(house.words[heard]) - 1):
        first = answers_to(house, variable, heard, other, way)
        second = answers_to(house, variable, heard, other + 1, way)
        if not all(in_order(kind, one, later) for one, later in zip(first, second)):
            return False
    return True


def answers_to(house, variable, heard, other, way):
    """Return the way's words for the variable where the heard one says `other`.

    They stand in the order of the words of what else it hears, so that the lists
    for two words of the heard variable have at equal places what differs in it alone.
    """
    bounds = heard_bounds(house, variable)
    at = house.heard[variable].index(heard)
    rest = bounds[:at] + bounds[at + 1:]
    rows = [row_at(rest, k) for k in range(size(rest))]
    return [way[variable][place(bounds, row[:at] + [other] + row[at:])] for row in rows]


def in_order(kind, word, later):
    """Return whether a sentence of the kind allows the word, and with a later heard word the later one."""
    if kind == "ignores":
        return word == later
    if kind == "rises":
        return word <= later
    return word >= later


def parse_sentence(house, text):
    """Return the sentence; raises BadText."""
    reader = Reader(text)
    hearing = [variable for variable in range(len(house.names)) if house.heard[variable]]
    variable = read_variable(reader, house, hearing)
    kind = reader.take(["ignores", "rises", "falls", "never"])
    if kind == "never":
        word = reader.take_index(house.words[variable])
        reader.take(["when"])
        heard = read_variable(reader, house, house.heard[variable])
        other = reader.take_index(house.words[heard])
        reader.finish()
        return (kind, variable, word, heard, other)
    if kind != "ignores":
        reader.take(["with"])
    heard = read_variable(reader, house, house.heard[variable])
    reader.finish()
    return (kind, variable, heard)


def format_sentence(house, sentence):
    """Return the text of a sentence."""
    names = house.names
    if sentence[0] == "never":
        _, variable, word, heard, other = sentence
        said, condition = house.words[variable][word], house.words[heard][other]
        return f"{names[variable]} never {said} when {names[heard]} {condition}"
    kind, variable, heard = sentence
    if kind == "ignores":
        return f"{names[variable]} ignores {names[heard]}"
    return f"{names[variable]} {kind} with {names[heard]}"
