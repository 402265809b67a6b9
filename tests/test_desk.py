import copy
import inspect
import random
import unittest
from fractions import Fraction

from otherhow import desk as module
from otherhow.desk import Desk, replay
from otherhow.ends import greatest, least
from otherhow.errors import BadText, BeenError, NotAllowed, UnknownName
from otherhow.events import parse_event
from otherhow.houses import parse_house
from otherhow.papers import judge_paper
from otherhow.sentences import parse_sentence
from otherhow.tables import Data
from tests.support import PAIR, has_no_list_twice, house_of, lists_in, share_lists, told

HOUSE = parse_house(PAIR)
WIDE = house_of(("x", "low mid high", ""), ("y", "no yes", "x"))
ZERO, QUARTER, HALF, MOST, ONE = (0, 1), (1, 4), (1, 2), (3, 4), (1, 1)
FREE = (ZERO, ONE)
NONE = (ZERO, ZERO)
BOTH = "y yes if x yes and y no if x no"
RISES, FALLS, IGNORES = "y rises with x", "y falls with x", "y ignores x"
NO_NAMES = ["", "X", "1a", "a b", "a_b", "abcdefghijklm", "house", "when", "with", "a-", " a", "a\n", None, 3, ["a"]]
BAD_BOUNDS = [
    [], [FREE], [FREE] * 3, [((-1, 2), HALF), FREE], [FREE, ((-1, 10 ** 30), ZERO)], [FREE, (HALF, (3, 2))],
    [(ONE, (10 ** 30 + 1, 10 ** 30)), FREE], [(HALF, QUARTER), FREE], [FREE, (ONE, ZERO)], [FREE, ZERO], [FREE, None],
    5, "ab", (FREE, FREE)]


def known(*chances):
    return [(chance, chance) for chance in chances]


def table(name, bounds=None, setting=(), seen=(1,)):
    return ("table", name, list(setting), list(seen), [FREE, FREE] if bounds is None else bounds)


def ask(name, text=BOTH, factor=ONE, house=HOUSE):
    return ("ask", name, [(factor, parse_event(house, text))])


def desk_of(*entries, house=HOUSE):
    made = Desk(house)
    for entry in entries:
        made.do(entry)
    return made


def example():
    """The tables of the document's example, and a question."""
    return desk_of(
        table("yes", known(QUARTER, MOST), [(0, 1)]), table("no", known(MOST, QUARTER), [(0, 0)]), ask("both"))


def state(desk):
    """All that a desk answers."""
    data = desk.data()
    return copy.deepcopy((
        desk.names(), data.sentences, data.tables, data.ways, desk.standing(), desk.journal()))


def full_desk(many):
    """A desk that took as many entries: a table that comes and goes, a sentence and a question first."""
    made = desk_of(("say", RISES), ask("both"))
    for at in range(many - 2):
        made.do(table("t") if at % 2 == 0 else ("withdraw", "t"))
    return made


class DeskCase(unittest.TestCase):
    def refused(self, desk, entry, error, changes_too=True):
        """The desk refuses the entry with this error and answers as before; so do its questions about the entry."""
        before = state(desk)
        passed = copy.deepcopy(entry)
        paper = (ZERO, [[NONE] * len(one[2]) for one in desk.data().tables])
        calls = [lambda: desk.do(entry)]
        if changes_too:
            calls += [lambda: desk.changes(entry), lambda: desk.touches(entry, paper), lambda: desk.after(entry, paper)]
        for call in calls:
            with self.assertRaises(BeenError) as caught:
                call()
            self.assertIs(type(caught.exception), error)
            self.assertEqual(state(desk), before)
        self.assertEqual(entry, passed)
        return caught.exception

    def taken(self, desk, entry):
        """The desk takes the entry, says so in its journal, and returns nothing."""
        journal = desk.journal()
        passed = copy.deepcopy(entry)
        self.assertIsNone(desk.do(entry))
        self.assertEqual(entry, passed)
        self.assertEqual(desk.journal(), journal + [passed])


class NewDeskTest(unittest.TestCase):
    def test_a_new_desk(self):
        desk = Desk(HOUSE)
        self.assertIs(desk.house, HOUSE)
        self.assertEqual((desk.names(), desk.standing(), desk.journal()), ([], [], []))
        data = desk.data()
        self.assertIs(type(data), Data)
        self.assertIs(data.house, HOUSE)
        self.assertEqual((data.sentences, data.tables, len(data.ways)), ([], [], 8))

    def test_two_desks_of_one_house(self):
        one, other = Desk(HOUSE), Desk(HOUSE)
        one.do(table("t"))
        one.do(("say", RISES))
        one.do(ask("q"))
        self.assertEqual((other.names(), other.data().sentences, other.standing(), other.journal()), ([], [], [], []))


class TableTest(DeskCase):
    def test_taken_in_order(self):
        desk = Desk(HOUSE)
        self.taken(desk, table("b", known(QUARTER, MOST), [(0, 1)]))
        self.taken(desk, table("a", [FREE] * 4, [], [0, 1]))
        self.taken(desk, table("abcdefghijkl"))
        self.assertEqual(desk.names(), ["b", "a", "abcdefghijkl"])
        self.assertEqual(desk.data().tables, [
            ([(0, 1)], [1], known(QUARTER, MOST)), ([], [0, 1], [FREE] * 4), ([], [1], [FREE, FREE])])

    def test_a_name_that_is_none(self):
        for name in NO_NAMES:
            self.refused(Desk(HOUSE), table(name), NotAllowed)
            self.refused(desk_of(table("t")), table(name, [FREE]), NotAllowed)

    def test_a_name_that_a_table_has(self):
        desk = desk_of(table("t"), table("u"))
        for name in ("t", "u"):
            self.refused(desk, table(name), NotAllowed)
            self.refused(desk, table(name, [FREE] * 3), NotAllowed)
        self.taken(desk, ("withdraw", "t"))
        self.taken(desk, table("t"))
        self.assertEqual(desk.names(), ["u", "t"])

    def test_a_name_that_a_question_has(self):
        desk = desk_of(ask("same"))
        self.taken(desk, table("same"))
        self.taken(desk, ask("same", "x yes"))
        self.taken(desk, ("drop", "same"))
        self.assertEqual((desk.names(), desk.standing()), (["same"], []))
        self.taken(desk, ask("same"))
        self.taken(desk, ("withdraw", "same"))
        self.assertEqual((desk.names(), [name for name, _ in desk.standing()]), ([], ["same"]))

    def test_bounds(self):
        for bounds in BAD_BOUNDS:
            self.refused(Desk(HOUSE), table("t", bounds), NotAllowed)
        self.refused(Desk(HOUSE), table("t", [FREE] * 3, [], [0, 1]), NotAllowed)
        for bounds in ([(ONE, ONE)] * 2, [NONE] * 2, [((1, 10 ** 30), (1, 10 ** 30)), FREE], known(HALF, HALF)):
            self.taken(Desk(HOUSE), table("t", bounds))

    def test_eight_tables(self):
        desk = desk_of(*[table(f"t{k}") for k in range(7)])
        self.taken(desk, table("t7"))
        self.refused(desk, table("t8"), NotAllowed)
        self.refused(desk, table("t8", [FREE]), NotAllowed)
        self.refused(desk, table("t7"), NotAllowed)
        self.taken(desk, ("withdraw", "t3"))
        self.taken(desk, table("t8"))
        self.assertEqual(desk.names(), ["t0", "t1", "t2", "t4", "t5", "t6", "t7", "t8"])

    def test_32_rows(self):
        six = [("table", f"t{k}", [], [0, 1], [FREE] * 6) for k in range(5)]
        two, three = ("table", "two", [], [1], [FREE] * 2), ("table", "three", [(1, 0)], [0], [FREE] * 3)
        desk = desk_of(*six, house=WIDE)
        self.refused(desk, three, NotAllowed)
        self.taken(desk, two)
        for entry in (("table", "more", [], [1], [FREE] * 2), three, ("table", "more", [], [0, 1], [FREE] * 6)):
            self.refused(desk, entry, NotAllowed)
        self.taken(desk, ("withdraw", "t0"))
        self.taken(desk, three)
        self.assertEqual(sum([len(one[2]) for one in desk.data().tables]), 29)
        fours = [table(f"t{k}", [FREE] * 4, [], [0, 1]) for k in range(8)]
        self.assertEqual(len(desk_of(*fours).names()), 8)


class WithdrawTest(DeskCase):
    def test_taken(self):
        entries = [table("a", known(HALF, HALF)), table("b", [FREE] * 4, [], [0, 1]), table("c", None, [(0, 1)])]
        for at, name in enumerate("abc"):
            desk = desk_of(*entries)
            tables = desk.data().tables
            self.taken(desk, ("withdraw", name))
            self.assertEqual(desk.names(), [other for other in "abc" if other != name])
            self.assertEqual(desk.data().tables, tables[:at] + tables[at + 1:])

    def test_no_table_of_the_name(self):
        desk = desk_of(table("a"), ask("q"))
        for name in ("b", "q", "", "A", "house", None):
            self.refused(desk, ("withdraw", name), UnknownName)
        self.taken(desk, ("withdraw", "a"))
        self.refused(desk, ("withdraw", "a"), UnknownName)


class SayTest(DeskCase):
    def test_taken(self):
        desk = Desk(HOUSE)
        for text in (RISES, "  y   never yes when    x no ", RISES):
            self.taken(desk, ("say", text))
        self.assertEqual(desk.data().sentences, [
            parse_sentence(HOUSE, RISES), ("never", 1, 1, 0, 0), parse_sentence(HOUSE, RISES)])
        self.assertEqual(len(desk.data().ways), 4)
        self.assertEqual(desk.journal()[1], ("say", "  y   never yes when    x no "))

    def test_wrong_texts(self):
        desk = desk_of(("say", RISES))
        for text, at in [
                ("", 0), ("x ignores y", 0), ("y rises x", 2), ("  y   never yes when", 4), ("y ignores x x", 3),
                ("y never maybe when x no", 2), ("y", 1), ("y ignores  y", 2)]:
            self.assertEqual(self.refused(desk, ("say", text), BadText).at, at)

    def test_six_sentences(self):
        desk = desk_of(*[("say", RISES)] * 5)
        self.taken(desk, ("say", IGNORES))
        self.refused(desk, ("say", RISES), NotAllowed)
        self.assertEqual(self.refused(desk, ("say", "y rises to x"), BadText).at, 2)
        self.taken(desk, ("unsay", 0))
        self.taken(desk, ("say", FALLS))
        self.assertEqual(desk.data().sentences[4:], [parse_sentence(HOUSE, IGNORES), parse_sentence(HOUSE, FALLS)])


class UnsayTest(DeskCase):
    def test_taken(self):
        for at in range(3):
            desk = desk_of(("say", RISES), ("say", FALLS), ("say", IGNORES))
            left = desk.data().sentences
            self.taken(desk, ("unsay", at))
            del left[at]
            self.assertEqual(desk.data().sentences, left)

    def test_no_sentence_of_the_index(self):
        for index in (0, -1, 1):
            self.refused(Desk(HOUSE), ("unsay", index), NotAllowed)
        desk = desk_of(("say", RISES), ("say", FALLS))
        for index in (-1, -2, 2, 3, 10 ** 30, "0", None, True):
            self.refused(desk, ("unsay", index), NotAllowed)
        self.taken(desk, ("unsay", 1))
        self.refused(desk, ("unsay", 1), NotAllowed)
        self.taken(desk, ("unsay", 0))
        self.refused(desk, ("unsay", 0), NotAllowed)


class AskTest(DeskCase):
    def test_taken_in_order(self):
        desk = Desk(HOUSE)
        for name in ("b", "a", "c"):
            self.taken(desk, ask(name))
        self.assertEqual([name for name, _ in desk.standing()], ["b", "a", "c"])
        self.taken(desk, ("ask", "none", []))
        self.assertEqual(desk.standing()[3], ("none", ("between", ZERO, ZERO)))

    def test_a_question_of_the_name_is_replaced(self):
        desk = desk_of(ask("a"), ask("b"), ask("c"))
        self.taken(desk, ask("b", "", (2, 1)))
        self.assertEqual([name for name, _ in desk.standing()], ["a", "b", "c"])
        self.assertEqual(desk.standing()[1], ("b", ("between", (2, 1), (2, 1))))

    def test_a_name_that_is_none(self):
        for name in NO_NAMES:
            self.refused(Desk(HOUSE), ask(name), NotAllowed)
            self.refused(desk_of(ask("a")), ask(name), NotAllowed)

    def test_six_questions(self):
        desk = desk_of(*[ask(f"q{k}") for k in range(5)])
        self.taken(desk, ask("q5"))
        self.refused(desk, ask("q6"), NotAllowed)
        self.refused(desk, ask("Q"), NotAllowed)
        self.taken(desk, ask("q3", "x yes"))
        self.taken(desk, ask("q5", "x yes"))
        self.taken(desk, ("drop", "q0"))
        self.taken(desk, ask("q6"))
        self.assertEqual([name for name, _ in desk.standing()], ["q1", "q2", "q3", "q4", "q5", "q6"])


class DropTest(DeskCase):
    def test_taken(self):
        for name in "abc":
            desk = desk_of(ask("a"), ask("b"), ask("c"))
            self.taken(desk, ("drop", name))
            self.assertEqual([other for other, _ in desk.standing()], [other for other in "abc" if other != name])

    def test_none_stands_under_the_name(self):
        desk = desk_of(ask("a"), table("t"))
        for name in ("b", "t", "", "A", None):
            self.refused(desk, ("drop", name), UnknownName)
        self.taken(desk, ("drop", "a"))
        self.refused(desk, ("drop", "a"), UnknownName)


class ManyEntriesTest(DeskCase):
    ENTRIES = [table("u"), ("say", FALLS), ("unsay", 0), ask("new"), ask("both", "x yes"), ("drop", "both")]

    def test_the_200th_entry(self):
        for entry in self.ENTRIES + [("withdraw", "t")]:
            desk = full_desk(199)
            self.taken(desk, entry)
            self.assertEqual(len(desk.journal()), 200)

    def test_the_201st_entry(self):
        desk = full_desk(200)
        for entry in self.ENTRIES + [table("t")]:
            self.refused(desk, entry, NotAllowed, changes_too=False)
        self.refused(desk_of_200_with_a_table(), ("withdraw", "t"), NotAllowed, changes_too=False)

    def test_the_201st_entry_that_is_refused_for_another_reason(self):
        desk = full_desk(200)
        self.refused(desk, ("withdraw", "nobody"), UnknownName)
        self.refused(desk, ("drop", "nobody"), UnknownName)
        self.assertEqual(self.refused(desk, ("say", "y rises to x"), BadText).at, 2)
        for entry in (table("T"), table("u", [FREE]), ("unsay", 1), ask("Q")):
            self.refused(desk, entry, NotAllowed)

    def test_changes_and_papers_are_told_of_the_201st_entry(self):
        desk = full_desk(200)
        before = state(desk)
        low = told(Fraction(1, 2))
        entry = ("table", "u", [(0, 1)], [1], [FREE, (ZERO, HALF)])
        self.assertEqual(desk.changes(entry), [("both", ("between", ZERO, ONE), ("between", ZERO, low))])
        self.assertIs(desk.touches(entry, (ZERO, [])), False)
        self.assertEqual(desk.after(entry, (ZERO, [])), (ZERO, [[NONE, NONE]]))
        self.assertIs(desk.touches(("unsay", 0), (ZERO, [])), True)
        self.assertEqual(desk.changes(("drop", "both")), [])
        self.assertEqual(state(desk), before)

    def test_refused_entries_do_not_count(self):
        desk = full_desk(199)
        for _ in range(3):
            self.refused(desk, ("withdraw", "nobody"), UnknownName)
        self.taken(desk, ("say", FALLS))


def desk_of_200_with_a_table():
    """A desk that took 200 entries, the last one a table."""
    made = full_desk(199)
    if "t" in made.names():
        made.do(("say", RISES))
    else:
        made.do(table("t"))
    return made


class CopyTest(DeskCase):
    def test_lists_that_were_passed_and_are_changed_later(self):
        entries = [table("t", known(QUARTER, MOST), [(0, 1)]), ask("both"), ask("other", "x yes if y no")]
        kept = copy.deepcopy(entries)
        desk = Desk(HOUSE)
        for entry in entries:
            desk.do(entry)
        before = state(desk)
        self.assertFalse(share_lists(entries, [desk.journal(), desk.data().tables]))
        for entry in entries:
            for part in lists_in(entry):
                part.clear()
        self.assertEqual(state(desk), before)
        self.assertEqual(desk.journal(), kept)
        self.assertEqual(state(replay(HOUSE, desk.journal())), before)

    def test_lists_that_were_returned_and_are_changed_later(self):
        desk = example()
        desk.do(("say", RISES))
        before = state(desk)
        paper = (ZERO, [[NONE, NONE], [NONE, NONE]])
        for call in [desk.names, desk.standing, desk.journal, lambda: desk.changes(table("t", known(HALF, HALF))),
                     lambda: desk.after(table("t"), paper), lambda: [
                         desk.data().tables, desk.data().sentences, desk.data().ways]]:
            first, second = call(), call()
            self.assertTrue(has_no_list_twice(first))
            self.assertFalse(share_lists(first, second))
            for part in lists_in(first):
                part.clear()
            self.assertEqual(call(), second)
            self.assertEqual(state(desk), before)
        self.assertEqual(paper, (ZERO, [[NONE, NONE], [NONE, NONE]]))

    def test_changes_keeps_nothing_of_the_entry(self):
        desk = example()
        before = state(desk)
        entry = ask("both", "x yes if y no")
        passed = copy.deepcopy(entry)
        desk.changes(entry)
        self.assertEqual(entry, passed)
        for part in lists_in(entry):
            part.clear()
        self.assertEqual(state(desk), before)

    def test_the_journal_that_is_replayed(self):
        journal = example().journal()
        passed = copy.deepcopy(journal)
        desk = replay(HOUSE, journal)
        self.assertEqual(journal, passed)
        before = state(desk)
        for part in lists_in(journal):
            part.clear()
        self.assertEqual(state(desk), before)


class StandingTest(DeskCase):
    def test_the_example(self):
        desk = example()
        desk.do(ask("one", "y yes if x yes", (-2, 1)))
        desk.do(ask("free", "x yes"))
        self.assertEqual(desk.standing(), [
            ("both", ("between", HALF, MOST)), ("one", ("between", (-3, 2), (-3, 2))),
            ("free", ("between", ZERO, ONE))])
        for name, answer in desk.standing():
            self.assertEqual((type(name), type(answer)), (str, tuple))

    def test_the_answers_are_the_least_and_the_greatest(self):
        desk = desk_of(table("a", [(ZERO, HALF), (QUARTER, ONE)], [(0, 1)]), ("say", RISES), house=WIDE)
        questions = [
            ("one", "y yes if x low"), ("two", "y yes if x high and y no if x mid"), ("three", "x mid and y yes")]
        for name, text in questions:
            desk.do(ask(name, text, (-3, 7), WIDE))
        data = desk.data()
        for (name, text), (stands, answer) in zip(questions, desk.standing()):
            question = ask(name, text, (-3, 7), WIDE)[2]
            self.assertEqual(stands, name)
            self.assertEqual(answer, ("between", least(data, question)[1], greatest(data, question)[1]))

    def test_no_mix_agrees(self):
        desk = example()
        desk.do(ask("zero", ""))
        desk.do(("say", FALLS))
        self.assertEqual(desk.standing(), [("both", ("none",)), ("zero", ("none",))])
        desk.do(("unsay", 0))
        self.assertEqual(desk.standing(), [("both", ("between", HALF, MOST)), ("zero", ("between", ONE, ONE))])

    def test_no_way(self):
        desk = desk_of(("say", "y never no when x no"), ask("both"), ("say", "y never yes when x no"))
        self.assertEqual(desk.data().ways, [])
        self.assertEqual(desk.standing(), [("both", ("none",))])


class ChangesTest(DeskCase):
    def told(self, desk, entry):
        """The changes of an entry, as they are told and as they come about."""
        before = state(desk)
        changes = desk.changes(entry)
        self.assertEqual(state(desk), before)
        self.assertTrue(type(changes) is list and all(type(change) is tuple for change in changes))
        later = replay(HOUSE, desk.journal() + [entry])
        answers, old = dict(later.standing()), desk.standing()
        self.assertEqual(changes, [
            (name, answer, answers[name]) for name, answer in old if name in answers and answers[name] != answer])
        return changes

    def test_each_kind_of_entry(self):
        half_more = ("between", HALF, MOST)
        desk = example()
        desk.do(("say", "y never yes when x no"))
        desk.do(ask("x", "x yes"))
        self.assertEqual(self.told(desk, ("unsay", 0)), [
            ("both", ("none",), half_more), ("x", ("none",), ("between", ZERO, ONE))])
        desk.do(("unsay", 0))
        for entry, changes in [
                (table("t", known(HALF, HALF), [], [0]), [("x", ("between", ZERO, ONE), ("between", HALF, HALF))]),
                (table("t"), []),
                (table("t", known(ONE, ONE)), [
                    ("both", half_more, ("none",)), ("x", ("between", ZERO, ONE), ("none",))]),
                (("withdraw", "yes"), [("both", half_more, ("between", ZERO, MOST))]),
                (("withdraw", "no"), [("both", half_more, ("between", ZERO, MOST))]),
                (("say", RISES), [("both", half_more, ("between", HALF, HALF))]),
                (("say", IGNORES), [("both", half_more, ("none",)), ("x", ("between", ZERO, ONE), ("none",))]),
                (ask("new"), []), (ask("both"), []), (ask("both", BOTH, (2, 1)), [("both", half_more, (
                    "between", ONE, (3, 2)))]),
                (ask("x", ""), [("x", ("between", ZERO, ONE), ("between", ONE, ONE))]),
                (ask("x", "x no"), []), (("drop", "both"), []), (("drop", "x"), [])]:
            self.assertEqual(self.told(desk, entry), changes, entry)

    def test_in_order(self):
        desk = Desk(HOUSE)
        for name in ("c", "a", "b"):
            desk.do(ask(name))
        free, after = ("between", ZERO, ONE), ("between", ZERO, HALF)
        entry = table("t", [FREE, (ZERO, HALF)], [(0, 1)])
        self.assertEqual(self.told(desk, entry), [(name, free, after) for name in "cab"])

    def test_replaced_where_no_mix_agrees(self):
        desk = example()
        desk.do(("say", FALLS))
        self.assertEqual(self.told(desk, ask("both", "x yes")), [])

    def test_no_question(self):
        for entry in (table("t"), ("say", RISES), ask("q")):
            self.assertEqual(self.told(Desk(HOUSE), entry), [])

    def test_errors(self):
        desk = desk_of(*[("say", RISES)] * 6, *[table(f"t{k}") for k in range(8)], *[ask(f"q{k}") for k in range(6)])
        for entry, error in [
                (table("t8"), NotAllowed), (table("t0"), NotAllowed), (("withdraw", "t8"), UnknownName),
                (("say", "x"), BadText), (("say", RISES), NotAllowed), (("unsay", 6), NotAllowed),
                (("unsay", -1), NotAllowed), (ask("q6"), NotAllowed), (("drop", "q6"), UnknownName)]:
            self.refused(desk, entry, error)


class PaperTest(DeskCase):
    def setUp(self):
        self.desk = example()
        self.desk.do(("say", RISES))
        self.desk.do(table("free"))
        self.question = ask("both")[2]
        self.paper = (ZERO, [[NONE, (ONE, ZERO)], [NONE, (ZERO, ONE)], [NONE, NONE]])
        self.assertIs(judge_paper(self.desk.data(), self.question, HALF, self.paper), True)

    def kept(self, entry, expected, paper=None):
        """The entry does not touch the paper; it is then as expected, and still accepted after the entry."""
        paper = self.paper if paper is None else paper
        passed = copy.deepcopy((entry, paper))
        before = state(self.desk)
        self.assertIs(self.desk.touches(entry, paper), False)
        found = self.desk.after(entry, paper)
        self.assertEqual(found, expected)
        self.assertTrue(type(found) is tuple and has_no_list_twice(found))
        self.assertFalse(share_lists(found, [paper, entry]))
        for part in lists_in(self.desk.after(entry, paper)):
            part.clear()
        self.assertEqual(((entry, paper), state(self.desk)), (passed, before))
        later = replay(HOUSE, self.desk.journal() + [entry])
        self.assertIs(judge_paper(later.data(), self.question, HALF, found), True)

    def touched(self, entry, paper=None):
        paper = self.paper if paper is None else paper
        passed = copy.deepcopy((entry, paper))
        before = state(self.desk)
        self.assertIs(self.desk.touches(entry, paper), True)
        with self.assertRaises(NotAllowed):
            self.desk.after(entry, paper)
        self.assertEqual(((entry, paper), state(self.desk)), (passed, before))

    def test_questions_and_sentences(self):
        for entry in (ask("new"), ask("both", "x yes"), ("drop", "both"), ("say", IGNORES), ("say", FALLS)):
            self.kept(entry, self.paper)

    def test_a_new_table(self):
        fixed, prices = self.paper
        self.kept(table("t"), (fixed, prices + [[NONE, NONE]]))
        self.kept(table("t", known(ONE, ONE)), (fixed, prices + [[NONE, NONE]]))
        self.kept(table("t", [FREE] * 4, [(0, 1)], [0, 1]), (fixed, prices + [[NONE] * 4]))

    def test_the_withdrawal_of_a_table_without_prices(self):
        fixed, prices = self.paper
        self.kept(("withdraw", "free"), (fixed, prices[:2]))
        self.desk.do(("withdraw", "free"))
        self.desk.do(("withdraw", "yes"))
        self.desk.do(table("yes", known(QUARTER, MOST), [(0, 1)]))
        self.desk.do(table("front"))
        prices = [[NONE, (ZERO, ONE)], [NONE, (ONE, ZERO)], [NONE, NONE]]
        self.kept(("withdraw", "front"), (ZERO, prices[:2]), (ZERO, prices))

    def test_the_withdrawal_of_the_first_table(self):
        desk = desk_of(table("free", [FREE] * 4, [], [0, 1]), table("yes", known(QUARTER, MOST), [(0, 1)]))
        paper = ((1, 3), [[NONE] * 4, [NONE, (ONE, ZERO)]])
        self.assertEqual(desk.after(("withdraw", "free"), paper), ((1, 3), [[NONE, (ONE, ZERO)]]))
        self.assertIs(desk.touches(("withdraw", "yes"), paper), True)

    def test_the_withdrawal_of_a_table_with_a_price(self):
        for name in ("yes", "no"):
            self.touched(("withdraw", name))
        tiny = (1, 10 ** 40)
        for at in range(2):
            for pair in ((tiny, ZERO), (ZERO, tiny), (tiny, tiny)):
                listed = [NONE, NONE]
                listed[at] = pair
                self.touched(("withdraw", "free"), (ZERO, self.paper[1][:2] + [listed]))

    def test_the_withdrawal_touches_also_where_the_paper_stays_accepted(self):
        paper = (ZERO, self.paper[1][:2] + [[(QUARTER, QUARTER), NONE]])
        self.touched(("withdraw", "free"), paper)
        self.touched(("withdraw", "free"), ((-9, 1), [[NONE, NONE], [NONE, NONE], [(ONE, ZERO), NONE]]))

    def test_each_unsay_touches(self):
        self.touched(("unsay", 0))
        self.touched(("unsay", 0), ((-9, 1), [[NONE, NONE]] * 3))
        self.desk.do(("say", RISES))
        for index in range(2):
            self.touched(("unsay", index))

    def test_errors(self):
        for entry, error in [
                (table("free"), NotAllowed), (table("T"), NotAllowed), (table("t", [FREE]), NotAllowed),
                (("withdraw", "nobody"), UnknownName), (("say", "y"), BadText), (("unsay", 1), NotAllowed),
                (("unsay", -1), NotAllowed), (ask("Q"), NotAllowed), (("drop", "nobody"), UnknownName)]:
            self.refused(self.desk, entry, error)


class ReplayTest(DeskCase):
    def test_a_desk_that_answers_alike(self):
        desk = example()
        desk.do(("say", FALLS))
        desk.do(("unsay", 0))
        desk.do(table("t", [FREE] * 4, [], [0, 1]))
        desk.do(("withdraw", "yes"))
        desk.do(ask("new", "x yes"))
        desk.do(ask("both", "y yes"))
        desk.do(("drop", "new"))
        desk.do(("say", "  y   rises with x"))
        again = replay(HOUSE, desk.journal())
        self.assertIs(type(again), Desk)
        self.assertIs(again.house, HOUSE)
        self.assertEqual(state(again), state(desk))
        again.do(ask("more"))
        self.assertEqual(len(again.journal()), len(desk.journal()) + 1)

    def test_no_entry(self):
        self.assertEqual(state(replay(HOUSE, [])), state(Desk(HOUSE)))

    def test_the_first_refused_entry(self):
        good = [table("t"), ("say", RISES), ask("q")]
        for bad, error in [
                (("withdraw", "u"), UnknownName), (("say", "y rises to x"), BadText), (("unsay", 5), NotAllowed),
                (table("t"), NotAllowed), (ask("Q"), NotAllowed), (("drop", "t"), UnknownName)]:
            for journal in ([bad], good + [bad], good + [bad, ("withdraw", "nobody"), ("say", ""), ("unsay", -1)]):
                if journal == [table("t")]:
                    continue
                with self.assertRaises(error):
                    replay(HOUSE, journal)

    def test_200_entries(self):
        journal = full_desk(200).journal()
        self.assertEqual(len(replay(HOUSE, journal).journal()), 200)
        with self.assertRaises(NotAllowed):
            replay(HOUSE, journal + [("say", RISES)])
        with self.assertRaises(UnknownName):
            replay(HOUSE, journal + [("withdraw", "nobody")])

    def test_random_desks(self):
        numbers = random.Random(1)
        for _ in range(4):
            desk = Desk(HOUSE)
            for _ in range(30):
                entry = self.random_entry(numbers)
                try:
                    changes = desk.changes(entry)
                except BeenError as error:
                    self.refused(desk, entry, type(error))
                    continue
                before = dict(desk.standing())
                self.taken(desk, entry)
                self.assertEqual(changes, [(name, before[name], answer) for name, answer in desk.standing()
                                           if name in before and before[name] != answer])
            self.assertEqual(state(replay(HOUSE, desk.journal())), state(desk))

    def random_entry(self, numbers):
        name = numbers.choice("abcd")
        low = told(Fraction(numbers.randint(0, 3), 6))
        setting = numbers.choice([[], [(0, 0)], [(0, 1)]])
        return numbers.choice([
            table(name, [FREE, (low, numbers.choice([low, HALF, ONE]))], setting), ("withdraw", name),
            ("say", numbers.choice([RISES, IGNORES, "y never no when x no", "y falls x"])),
            ("unsay", numbers.randint(0, 1)),
            ask(name, numbers.choice([BOTH, "y yes", "x no and y yes if x yes", ""])), ("drop", name)])


class InterfaceTest(unittest.TestCase):
    def test_names_and_arguments(self):
        arguments = {
            "do": ["entry"], "data": [], "names": [], "standing": [], "changes": ["entry"],
            "touches": ["entry", "paper"], "after": ["entry", "paper"], "journal": []}
        for name, parameters in arguments.items():
            self.assertIn(name, Desk.__dict__)
            self.assertEqual(list(inspect.signature(Desk.__dict__[name]).parameters), ["self"] + parameters)
        self.assertEqual(list(inspect.signature(Desk).parameters), ["house"])
        self.assertEqual(list(inspect.signature(replay).parameters), ["house", "journal"])
        for listed in (module.Desk, module.replay):
            self.assertEqual(listed.__module__, "otherhow.desk")


if __name__ == "__main__":
    unittest.main()
