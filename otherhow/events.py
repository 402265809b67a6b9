"""Events and questions about several worlds at once (points 12 to 14)."""

from otherhow.houses import read_variable
from otherhow.ratio import added
from otherhow.reading import Reader
from otherhow.ways import outcome


def holds(house, event, way):
    """Return whether the event holds of the way."""
    return all(outcome(house, way, setting)[variable] == word for variable, word, setting in event)


def question_value(house, question, way):
    """Return the question's value for the way."""
    return added([factor for factor, event in question if holds(house, event, way)])


def parse_event(house, text):
    """Return the event; raises BadText."""
    reader = Reader(text)
    event = []
    while not reader.ended():
        if event:
            reader.take(["and"])
        event.append(read_condition(reader, house))
    return event


def read_condition(reader, house):
    """Read a condition, up to the word `and` or the end."""
    variable, word = read_said(reader, house, 0)
    setting = []
    if reader.coming() == "if":
        reader.take(["if"])
        setting.append(read_said(reader, house, 0))
        while not reader.ended() and reader.coming() != "and":
            setting.append(read_said(reader, house, setting[-1][0] + 1))
    return (variable, word, setting)


def read_said(reader, house, start):
    """Read the name of a variable from number `start` on and one of its words, as a tuple."""
    variable = read_variable(reader, house, list(range(start, len(house.names))))
    return (variable, reader.take_index(house.words[variable]))


def format_event(house, event):
    """Return the text of an event."""
    return " and ".join([format_condition(house, condition) for condition in event])


def format_condition(house, condition):
    """Return the text of a condition."""
    variable, word, setting = condition
    parts = [format_said(house, variable, word)]
    if setting:
        parts.append("if")
        parts.extend([format_said(house, chosen, said) for chosen, said in setting])
    return " ".join(parts)


def format_said(house, variable, word):
    """Return a variable's name and one of its words."""
    return f"{house.names[variable]} {house.words[variable][word]}"
