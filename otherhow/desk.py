"""Desks, on which tables, sentences and questions come and go (points 30 to 33)."""

from otherhow.copies import copied
from otherhow.ends import greatest, least
from otherhow.errors import NotAllowed, UnknownName
from otherhow.ratio import ZERO, is_whole
from otherhow.reading import is_name
from otherhow.sentences import parse_sentence
from otherhow.tables import Data, is_table

MOST_TABLES = 8
MOST_ROWS = 32
MOST_SENTENCES = 6
MOST_QUESTIONS = 6
MOST_ENTRIES = 200


class Desk:
    """A house, what stands for it, and the journal of the entries that were taken.

    `tables` and `questions` are lists of tuples that have the name first.
    """

    def __init__(self, house):
        self.house = house
        self.tables = []
        self.sentences = []
        self.questions = []
        self.taken = []

    def do(self, entry):
        """Take a copy of an entry; raises BadText, UnknownName, NotAllowed."""
        check(self, entry)
        if len(self.taken) >= MOST_ENTRIES:
            raise NotAllowed(f"a desk takes at most {MOST_ENTRIES} entries")
        take(self, copied(entry))

    def data(self):
        """Return the Data."""
        return Data(self.house, self.sentences, [table for _, table in self.tables])

    def names(self):
        """Return the names of the tables, in order."""
        return [name for name, _ in self.tables]

    def standing(self):
        """Return the list of tuples `(name, answer)` of the standing questions, in order."""
        data = self.data()
        return [(name, answer_to(data, question)) for name, question in self.questions]

    def changes(self, entry):
        """Return tuples `(name, before, after)` of the answers that the entry would change; raises as `do`."""
        check(self, entry)
        later = Desk(self.house)
        later.tables = list(self.tables)
        later.sentences = list(self.sentences)
        later.questions = list(self.questions)
        take(later, copied(entry))
        before = dict(self.standing())
        return [
            (name, before[name], answer) for name, answer in later.standing()
            if name in before and before[name] != answer]

    def touches(self, entry, paper):
        """Return whether the entry touches the paper; raises what `changes` raises."""
        check(self, entry)
        if entry[0] == "withdraw":
            listed = paper[1][place_of(self.tables, entry[1])]
            return any(price != ZERO for pair in listed for price in pair)
        return entry[0] == "unsay"

    def after(self, entry, paper):
        """Return the paper as it is after the entry; raises what `changes` raises, and NotAllowed if it touches it."""
        if self.touches(entry, paper):
            raise NotAllowed("the entry touches the paper")
        fixed, prices = copied(paper)
        if entry[0] == "table":
            prices.append([(ZERO, ZERO) for _ in entry[4]])
        elif entry[0] == "withdraw":
            del prices[place_of(self.tables, entry[1])]
        return (fixed, prices)

    def journal(self):
        """Return the list of the entries that were taken."""
        return copied(self.taken)


def replay(house, journal):
    """Return a new Desk that took these entries; raises what the first of them that is refused raises."""
    desk = Desk(house)
    for entry in journal:
        desk.do(entry)
    return desk


def answer_to(data, question):
    """Return what a question stands at."""
    low = least(data, question)
    if low[0] == "none":
        return ("none",)
    return ("between", low[1], greatest(data, question)[1])


def check(desk, entry):
    """Raise what is due if the desk refuses the entry, but not for the number of entries that it took."""
    kind = entry[0]
    if kind == "table":
        check_table(desk, entry)
    elif kind == "withdraw":
        place_of(desk.tables, entry[1])
    elif kind == "say":
        parse_sentence(desk.house, entry[1])
        if len(desk.sentences) >= MOST_SENTENCES:
            raise NotAllowed(f"there are at most {MOST_SENTENCES} sentences")
    elif kind == "unsay":
        if not is_whole(entry[1]) or not 0 <= entry[1] < len(desk.sentences):
            raise NotAllowed("there is no sentence of this index")
    elif kind == "ask":
        check_name(entry[1])
        if len([name for name, _ in desk.questions if name != entry[1]]) >= MOST_QUESTIONS:
            raise NotAllowed(f"there are at most {MOST_QUESTIONS} questions")
    else:
        place_of(desk.questions, entry[1])


def check_table(desk, entry):
    """Raise NotAllowed if the desk refuses the table of an entry."""
    _, name, setting, seen, bounds = entry
    check_name(name)
    if name in desk.names():
        raise NotAllowed("a table has this name")
    if not is_table(desk.house, (setting, seen, bounds)):
        raise NotAllowed("the bounds are not those of a table")
    if len(desk.tables) >= MOST_TABLES:
        raise NotAllowed(f"there are at most {MOST_TABLES} tables")
    if len(bounds) + sum([len(table[2]) for _, table in desk.tables]) > MOST_ROWS:
        raise NotAllowed(f"the tables have at most {MOST_ROWS} rows")


def check_name(name):
    """Raise NotAllowed if a value is not a name."""
    if not is_name(name):
        raise NotAllowed("this is not a name")


def place_of(named, name):
    """Return the index of the tuple that has the name first; raises UnknownName."""
    for place, (known, _) in enumerate(named):
        if known == name:
            return place
    raise UnknownName("nothing stands under the name")


def take(desk, entry):
    """Take an entry that the desk does not refuse; the desk keeps its lists."""
    kind = entry[0]
    if kind == "table":
        desk.tables.append((entry[1], entry[2:]))
    elif kind == "withdraw":
        del desk.tables[place_of(desk.tables, entry[1])]
    elif kind == "say":
        desk.sentences.append(parse_sentence(desk.house, entry[1]))
    elif kind == "unsay":
        del desk.sentences[entry[1]]
    elif kind == "ask":
        desk.questions = with_question(desk.questions, entry[1], entry[2])
    else:
        del desk.questions[place_of(desk.questions, entry[1])]
    desk.taken.append(entry)


def with_question(questions, name, question):
    """Return the questions with one of that name, in the place of the one that had it, else behind the others."""
    if name not in [known for known, _ in questions]:
        return questions + [(name, question)]
    return [(name, question) if known == name else (known, other) for known, other in questions]
