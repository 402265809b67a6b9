"""Houses: variables, what they say and what they hear (points 4 to 7)."""

from otherhow.errors import NotAllowed
from otherhow.reading import Reader, is_name
from otherhow.rows import size

MOST_VARIABLES = 5
MOST_WAYS = 512


class House:
    """The variables' names, the words of each, and the earlier variables that each hears."""

    def __init__(self, names, words, heard):
        self.names = list(names)
        self.words = [list(said) for said in words]
        self.heard = [list(earlier) for earlier in heard]


def heard_bounds(house, variable):
    """Return the list of the numbers of words of the variables that it hears."""
    return [len(house.words[heard]) for heard in house.heard[variable]]


def answer_bounds(house):
    """Return how many words there are to choose from at each place of a way, in order."""
    bounds = []
    for variable in range(len(house.names)):
        bounds.extend([len(house.words[variable])] * size(heard_bounds(house, variable)))
    return bounds


def way_count(house):
    """Return the number of ways."""
    return size(answer_bounds(house))


def parse_house(text):
    """Return the House; raises BadText, NotAllowed."""
    reader = Reader(text)
    names, words, heard = [], [], []
    reader.take(["house"])
    while reader.take(words_after(len(names))) == "variable":
        earlier = list(names)
        names.append(reader.take_name(earlier))
        reader.take(["says"])
        words.append(read_words(reader))
        heard.append(read_heard(reader, earlier))
    reader.finish()
    house = House(names, words, heard)
    if way_count(house) > MOST_WAYS:
        raise NotAllowed(f"a house has at most {MOST_WAYS} ways")
    return house


def words_after(many):
    """Return the words that may follow as many whole variables."""
    if many == 0:
        return ["variable"]
    if many < MOST_VARIABLES:
        return ["variable", "end"]
    return ["end"]


def read_words(reader):
    """Read the 2 or 3 words of a variable."""
    said = [reader.take_name([])]
    said.append(reader.take_name(said))
    if is_name(reader.coming()):
        said.append(reader.take_name(said))
    return said


def read_heard(reader, earlier):
    """Read what a variable hears of the earlier ones, and the word `end`."""
    heard = []
    if reader.take(["hears", "end"] if earlier else ["end"]) == "end":
        return heard
    heard.append(reader.take_index(earlier))
    while reader.coming() != "end":
        start = heard[-1] + 1
        heard.append(start + reader.take_index(earlier[start:]))
    reader.take(["end"])
    return heard


def read_variable(reader, house, variables):
    """Read the name of one of the variables, and return which one it is."""
    return variables[reader.take_index([house.names[variable] for variable in variables])]


def format_house(house):
    """Return the text of a house."""
    parts = ["house"]
    for name, said, heard in zip(house.names, house.words, house.heard):
        parts.extend(["variable", name, "says"] + said)
        if heard:
            parts.extend(["hears"] + [house.names[earlier] for earlier in heard])
        parts.append("end")
    parts.append("end")
    return " ".join(parts)
