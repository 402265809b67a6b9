"""What several tests need: houses, and oracles that do their work in other ways than the program."""

import itertools
from fractions import Fraction

from otherhow.errors import BadText
from otherhow.houses import House

PAIR = "house variable x says no yes end variable y says no yes hears x end end"


def house_of(*variables):
    """A house of variables `(name, words, heard names)`, each written as one string with spaces."""
    names = [name for name, _, _ in variables]
    words = [said.split() for _, said, _ in variables]
    heard = [[names.index(other) for other in others.split()] for _, _, others in variables]
    return House(names, words, heard)


def sample_houses():
    """Houses of 1 to 5 variables; variables hear none, one and two others of 2 and 3 words."""
    return [
        house_of(("x", "no yes", "")),
        house_of(("x", "low mid high", "")),
        house_of(("x", "no yes", ""), ("y", "no yes", "x")),
        house_of(("x", "low mid high", ""), ("y", "no yes", "x")),
        house_of(("x", "no yes", ""), ("y", "low mid high", "x")),
        house_of(("x", "low mid high", ""), ("y", "low mid high", "x")),
        house_of(("x", "low mid high", ""), ("y", "no yes", "")),
        house_of(("x", "low mid high", ""), ("y", "no yes", ""), ("z", "a b", "x y")),
        house_of(("x", "no yes", ""), ("y", "low mid high", ""), ("z", "a b", "x y")),
        house_of(("x", "no yes", ""), ("y", "no yes", ""), ("z", "a b c", "x y")),
        house_of(("x", "no yes", ""), ("y", "no yes", "x"), ("z", "no yes", "y")),
        house_of(("x", "no yes", ""), ("y", "no yes", "x"), ("z", "no yes", "x y")),
        house_of(("a", "b c", ""), ("b", "a c", "a"), ("c", "a b", "a"), ("d", "a d", "b c")),
        house_of(("a", "p q", ""), ("b", "p q", ""), ("c", "p q", ""), ("d", "p q", "b"), ("e", "q p", "d")),
    ]


def rows(house, variables):
    """The rows of words of variables, the first one's word going slowest."""
    return list(itertools.product(*[range(len(house.words[variable])) for variable in variables]))


def ways(house):
    """All ways in order, as itertools counts them."""
    parts = []
    for variable, said in enumerate(house.words):
        answers = itertools.product(range(len(said)), repeat=len(rows(house, house.heard[variable])))
        parts.append([list(words) for words in answers])
    return [list(way) for way in itertools.product(*parts)]


def world(house, way, setting):
    """The words of all variables in the world of a setting, found by trying all rows of words."""
    answers = [dict(zip(rows(house, heard), said)) for heard, said in zip(house.heard, way)]
    for said in rows(house, range(len(house.names))):
        if all(said[variable] == word for variable, word in setting) and all(
                said[variable] == answers[variable][tuple(said[other] for other in house.heard[variable])]
                for variable in range(len(house.names)) if variable not in dict(setting)):
            return list(said)
    raise AssertionError("no row of words is a world")


def settings(house):
    """All settings of a house."""
    found = [[]]
    for variable, said in enumerate(house.words):
        found = [setting + more for setting in found for more in [[]] + [[(variable, k)] for k in range(len(said))]]
    return found


def lists_in(value):
    """All lists in a value, at any depth."""
    found = [value] if isinstance(value, list) else []
    if isinstance(value, (list, tuple)):
        for part in value:
            found.extend(lists_in(part))
    return found


def share_lists(one, other):
    """Whether some list is in both values, at any depth."""
    mine = lists_in(one)
    return any(part is mine_part for part in lists_in(other) for mine_part in mine)


def has_no_list_twice(value):
    """Whether the lists in a value are all different objects."""
    found = lists_in(value)
    return len({id(part) for part in found}) == len(found)


def wrong_at(function, *arguments):
    """The `at` of the BadText that a call raises."""
    try:
        result = function(*arguments)
    except BadText as error:
        if type(error) is not BadText or type(error.at) is not int:
            raise AssertionError("the error is not as it must be")
        return error.at
    raise AssertionError(f"{arguments[-1]!r} was read as {result!r}")


def spaced(text):
    """The text with other numbers of spaces between its words and at its ends."""
    return "   " + text.replace(" ", "  ", 3).replace("s ", "s    ") + "  "


def first_wrong(texts, words):
    """The index of the first word that none of the texts, lists of words, has after the words before it."""
    for at in range(len(words)):
        if not any(text[:at + 1] == words[:at + 1] for text in texts):
            return at
    return len(words)


def one_word_off(words, vocabulary):
    """All lists of words that differ from `words` by one word that is changed, put in or left out, or end early."""
    found = []
    for at in range(len(words) + 1):
        found.append(words[:at])
        found.append(words[:at] + words[at + 1:])
        for word in vocabulary:
            found.append(words[:at] + [word] + words[at:])
            found.append(words[:at] + [word] + words[at + 1:])
    return found


def even_mix(data):
    """The mix in which all ways have the same chance."""
    return [(1, len(data.ways))] * len(data.ways)


def pure_mix(data, at):
    """The mix in which one way has the chance 1."""
    return [(1, 1) if k == at else (0, 1) for k in range(len(data.ways))]


def told(number):
    """A Fraction as a tuple."""
    return (number.numerator, number.denominator)


def row_number(house, setting, seen, way):
    """The index of the row that holds of the way, looked up in the list of all rows."""
    said = world(house, way, setting)
    return rows(house, seen).index(tuple(said[variable] for variable in seen))


def exact(number):
    """A tuple as a Fraction, after a look at its form (point 3)."""
    if type(number) is not tuple or [type(part) for part in number] != [int, int]:
        raise AssertionError(f"{number!r} is no fraction")
    found = Fraction(*number)
    if told(found) != number:
        raise AssertionError(f"{number!r} is not in lowest terms")
    return found


def worth(house, question, way):
    """The question's value for a way, as a Fraction."""
    return sum([Fraction(*factor) for factor, event in question if all(
        world(house, way, setting)[variable] == word for variable, word, setting in event)], Fraction(0))


def random_mix(many, numbers):
    """A mix for as many ways, in which many have the chance 0."""
    parts = [numbers.choice([0, 0, 1, 2, 3, 7]) for _ in range(many)]
    parts[numbers.randrange(many)] += 1
    return [told(Fraction(part, sum(parts))) for part in parts]


def random_experiment(house, numbers, most=2):
    """An experiment in which 1 to `most` variables are seen."""
    many = len(house.names)
    seen = sorted(numbers.sample(range(many), numbers.randint(1, min(most, many))))
    return (numbers.choice(settings(house)), seen)


def table_near(data, mix, experiment, rooms, numbers):
    """A table that the mix agrees with; the bounds lie as far from its chances as one of the rooms."""
    setting, seen = experiment
    chances = [Fraction(0)] * len(rows(data.house, seen))
    for way, chance in zip(data.ways, mix):
        chances[row_number(data.house, setting, seen, way)] += Fraction(*chance)
    bounds = []
    for chance in chances:
        low = max(Fraction(0), chance - numbers.choice(rooms))
        high = min(Fraction(1), chance + numbers.choice(rooms))
        bounds.append((told(low), told(high)))
    return (setting, seen, bounds)


def random_event(house, numbers, most=2):
    """An event of at most so many conditions, about one world or several."""
    event = []
    for _ in range(numbers.randint(0, most)):
        variable = numbers.randrange(len(house.names))
        event.append((variable, numbers.randrange(len(house.words[variable])), numbers.choice(settings(house))))
    return event


def random_question(house, numbers, terms=3):
    """A question of at most so many terms, with factors of either sign."""
    return [(told(Fraction(numbers.randint(-6, 6), numbers.randint(1, 4))), random_event(house, numbers))
            for _ in range(numbers.randint(0, terms))]


def random_sentences(house, numbers, most=2):
    """At most so many sentences, of any kinds, on what hears something."""
    hearing = [variable for variable in range(len(house.names)) if house.heard[variable]]
    sentences = []
    for _ in range(numbers.randint(0, most) if hearing else 0):
        variable = numbers.choice(hearing)
        heard = numbers.choice(house.heard[variable])
        kind = numbers.choice(["ignores", "rises", "falls", "never"])
        if kind == "never":
            word, other = numbers.randrange(len(house.words[variable])), numbers.randrange(len(house.words[heard]))
            sentences.append((kind, variable, word, heard, other))
        else:
            sentences.append((kind, variable, heard))
    return sentences


def negated(question):
    """The question with its factors negated."""
    return [((-p, q), event) for (p, q), event in question]


def minus(number):
    """The negative of a fraction."""
    return (-number[0], number[1])
