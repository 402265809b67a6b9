import copy
import inspect
import itertools
import unittest
from fractions import Fraction

from otherhow import events as module
from otherhow.events import format_event, holds, parse_event, question_value
from otherhow.houses import parse_house
from tests.support import (
    PAIR, first_wrong, has_no_list_twice, house_of, one_word_off, sample_houses, settings, share_lists, spaced, ways,
    world, wrong_at)

TRIO = house_of(("x", "low mid high", ""), ("y", "no yes", "x"), ("z", "no yes", "x y"))


def conditions(house):
    """All conditions of a house."""
    return [
        (variable, word, setting)
        for variable, said in enumerate(house.words) for word in range(len(said)) for setting in settings(house)]


class ParseTest(unittest.TestCase):
    def test_the_example(self):
        house = parse_house(PAIR)
        event = parse_event(house, "y yes if x yes and y no if x no")
        self.assertEqual(event, [(1, 1, [(0, 1)]), (1, 0, [(0, 0)])])
        self.assertEqual(format_event(house, event), "y yes if x yes and y no if x no")

    def test_the_empty_event(self):
        for house in sample_houses():
            self.assertEqual(format_event(house, []), "")
            for text in ("", " ", "    "):
                self.assertEqual(parse_event(house, text), [])

    def test_settings(self):
        for text, event in [
                ("x mid", [(0, 1, [])]),
                ("z yes", [(2, 1, [])]),
                ("z yes if x high", [(2, 1, [(0, 2)])]),
                ("z no if y yes", [(2, 0, [(1, 1)])]),
                ("z yes if x low y yes", [(2, 1, [(0, 0), (1, 1)])]),
                ("y no if x mid z yes", [(1, 0, [(0, 1), (2, 1)])]),
                ("x low if x high y no z no", [(0, 0, [(0, 2), (1, 0), (2, 0)])]),
                ("x low and y no if x mid and z yes if x high y no and x low", [
                    (0, 0, []), (1, 0, [(0, 1)]), (2, 1, [(0, 2), (1, 0)]), (0, 0, [])])]:
            self.assertEqual(parse_event(TRIO, text), event)
            self.assertEqual(format_event(TRIO, event), text)

    def test_kinds(self):
        event = parse_event(TRIO, "z yes if x low y yes and x mid")
        self.assertIs(type(event), list)
        for condition in event:
            self.assertIs(type(condition), tuple)
            self.assertEqual([type(part) for part in condition], [int, int, list])
            self.assertTrue(all(type(pair) is tuple for pair in condition[2]))

    def test_there_and_back(self):
        for house in sample_houses():
            found = conditions(house)
            events = [[condition] for condition in found[::1 + len(found) // 200]]
            events += [found[at:at + 8] for at in range(0, len(found), 1 + len(found) // 20)]
            events += [found[:2], found[:2][::-1], found[:1] * 8]
            for event in events:
                text = format_event(house, event)
                self.assertEqual(parse_event(house, text), event)
                self.assertEqual(parse_event(house, spaced(text)), event)
                self.assertEqual(format_event(house, parse_event(house, text)), text)

    def test_words_that_are_names_too(self):
        house = house_of(("x", "y x", ""), ("y", "x y", "x"))
        text = "x y if x y y x and y y"
        self.assertEqual(parse_event(house, text), [(0, 0, [(0, 0), (1, 0)]), (1, 1, [])])
        self.assertEqual(format_event(house, parse_event(house, text)), text)


class WrongTextTest(unittest.TestCase):
    def test_wrong_words(self):
        for text, at in [
                ("w no", 0), ("no", 0), ("and", 0), ("and x low", 0), ("if", 0), ("if x low", 0), ("X low", 0),
                ("x", 1), ("x no", 1), ("x x", 1), ("x if y no", 1), ("x and y no", 1), ("y low", 1), ("y yes no", 2),
                ("x low mid", 2), ("x low x low", 2), ("x low y no", 2), ("x low when y no", 2), ("x low or y no", 2),
                ("x low if", 3), ("x low if and", 3), ("x low if if", 3), ("x low if w", 3), ("x low if no", 3),
                ("x low if and y no", 3),
                ("x low if y", 4), ("x low if y low", 4), ("x low if y y", 4), ("x low if y and", 4),
                ("x low if y if x low", 4),
                ("x low if y no y no", 5), ("x low if y no y yes", 5), ("x low if y no x low", 5),
                ("x low if x low x mid", 5), ("x low if z no x low", 5), ("x low if z no y no", 5),
                ("x low if y no if", 5), ("x low if y no if z no", 5), ("x low if y no no", 5), ("x low if y no w", 5),
                ("x low if z no z", 5),
                ("x low if y no z", 6), ("x low if y no z low", 6), ("x low if y no z and", 6),
                ("x low if x low z no y no", 7), ("x low if x low z no z no", 7), ("x low if x low y no x low", 7),
                ("x low if x low y no y no", 7), ("x low if x low y no z no x low", 9),
                ("x low and", 3), ("x low and and", 3), ("x low and and y no", 3), ("x low and if", 3),
                ("x low and no", 3), ("x low and low", 3), ("x low and y", 4), ("x low and y low", 4),
                ("x low and y no and", 6), ("x low and y no x low", 5), ("x low and y no yes", 5),
                ("x low if y no and", 6), ("x low if y no and and", 6), ("x low if y no and y", 7),
                ("x low if y no and y no z no", 8), ("x low if y no and y no if z", 10)]:
            self.assertEqual(wrong_at(parse_event, TRIO, text), at, text)
            self.assertEqual(wrong_at(parse_event, TRIO, spaced(text)), at, text)

    def test_other_words_at_each_place(self):
        words = "x low and y no if x mid and z yes if x high y no".split()
        for at in range(len(words) + 1):
            for word in ("house", "variable", "says", "hears", "end", "ignores", "rises", "with", "never", "when", "9"):
                wrong = " ".join(words[:at] + [word] + words[at + 1:])
                self.assertEqual(wrong_at(parse_event, TRIO, wrong), at, wrong)

    def test_texts_that_end_early(self):
        words = "x low and y no if x mid and z yes if x high y no".split()
        for many in range(len(words)):
            text = " ".join(words[:many])
            if many in (0, 2, 5, 8, 11, 14):
                self.assertEqual(format_event(TRIO, parse_event(TRIO, text)), text)
            else:
                self.assertEqual(wrong_at(parse_event, TRIO, text), many, text)

    def test_all_texts_one_word_off(self):
        house = parse_house(PAIR)
        parts = [format_event(house, [condition]).split() for condition in conditions(house)]
        texts = [[]] + parts + [one + ["and"] + other for one, other in itertools.product(parts, parts)]
        known = {tuple(text) for text in texts}
        starts = {text[:at] for text in known for at in range(len(text) + 1)}
        for words in parts:
            for wrong in one_word_off(words, ["x", "y", "z", "no", "yes", "if", "and", "when"]):
                if tuple(wrong) in known:
                    self.assertEqual(format_event(house, parse_event(house, " ".join(wrong))), " ".join(wrong))
                else:
                    at = [tuple(wrong[:many]) in starts for many in range(1, len(wrong) + 1)] + [False]
                    self.assertEqual(wrong_at(parse_event, house, " ".join(wrong)), at.index(False), wrong)

    def test_the_oracles_agree(self):
        texts = [["x", "no"], ["x", "no", "and", "y", "no"]]
        self.assertEqual(first_wrong(texts, ["x", "no", "and"]), 3)
        self.assertEqual(first_wrong(texts, ["x", "no", "or"]), 2)


class HoldsTest(unittest.TestCase):
    def test_the_empty_event(self):
        for house in sample_houses():
            for way in ways(house)[::17]:
                self.assertIs(holds(house, [], way), True)

    def test_two_worlds_at_once(self):
        house = parse_house(PAIR)
        event = parse_event(house, "y yes if x yes and y no if x no")
        self.assertEqual([holds(house, event, way) for way in ways(house)], [False, True, False, False] * 2)
        event = parse_event(house, "x no and y yes and y no if x yes")
        self.assertEqual([holds(house, event, way) for way in ways(house)], [False, False, True] + [False] * 5)
        event = parse_event(house, "x no and y yes if x yes")
        self.assertEqual([holds(house, event, way) for way in ways(house)], [False, True, False, True] + [False] * 4)

    def test_what_is_set_is_said(self):
        house = parse_house(PAIR)
        for way in ways(house):
            self.assertIs(holds(house, [(0, 1, [(0, 1)])], way), True)
            self.assertIs(holds(house, [(0, 0, [(0, 1)])], way), False)
            self.assertIs(holds(house, [(1, 0, [(0, 1), (1, 0)])], way), True)

    def test_conditions_that_exclude_each_other(self):
        house = parse_house(PAIR)
        for way in ways(house):
            self.assertIs(holds(house, [(0, 1, []), (0, 0, [])], way), False)
            self.assertIs(holds(house, [(1, 1, [(0, 1)]), (1, 0, [(0, 1)])], way), False)

    def test_each_condition_counts(self):
        for house in sample_houses():
            found = conditions(house)
            for way in ways(house)[::1 + len(ways(house)) // 5]:
                true = [c for c in found[::1 + len(found) // 40] if world(house, way, c[2])[c[0]] == c[1]]
                false = [c for c in found[::1 + len(found) // 40] if world(house, way, c[2])[c[0]] != c[1]]
                self.assertIs(holds(house, true, way), True)
                for condition in true:
                    self.assertIs(holds(house, [condition], way), True)
                for at, condition in enumerate(false):
                    self.assertIs(holds(house, [condition], way), False)
                    start = at % (len(true) + 1)
                    self.assertIs(holds(house, true[:start] + [condition] + true[start:], way), False)


class QuestionTest(unittest.TestCase):
    def test_no_term(self):
        house = parse_house(PAIR)
        for way in ways(house):
            self.assertEqual(question_value(house, [], way), (0, 1))

    def test_several_terms(self):
        house = parse_house(PAIR)
        question = [((1, 2), [(0, 1, [])]), ((-1, 3), [(1, 1, [])]), ((2, 1), []), ((0, 1), [])]
        self.assertEqual([question_value(house, question, way) for way in ways(house)], [
            (2, 1), (2, 1), (5, 3), (5, 3), (5, 2), (13, 6), (5, 2), (13, 6)])

    def test_terms_that_cancel(self):
        house = parse_house(PAIR)
        question = [((1, 3), [(0, 1, [])]), ((-1, 3), [(0, 1, [])])]
        for way in ways(house):
            self.assertEqual(question_value(house, question, way), (0, 1))

    def test_the_same_term_twice(self):
        house = parse_house(PAIR)
        question = [((-1, 4), [(0, 1, [])])] * 2
        self.assertEqual([question_value(house, question, way) for way in ways(house)], [(0, 1)] * 4 + [(-1, 2)] * 4)

    def test_against_fractions(self):
        for house in sample_houses():
            found = conditions(house)
            step = 1 + len(found) // 10
            events = [found[at:at + 2] for at in range(0, len(found), step)] + [[c] for c in found[1::step]] + [[]]
            question = [((-1) ** k * (k + 1), k * k + 2) for k in range(len(events))]
            question = [Fraction(p, q) for p, q in question]
            question = [((f.numerator, f.denominator), event) for f, event in zip(question, events)]
            for way in ways(house)[::1 + len(ways(house)) // 10]:
                total = sum([Fraction(*factor) for factor, event in question if all(
                    world(house, way, setting)[variable] == word for variable, word, setting in event)], Fraction(0))
                self.assertEqual(question_value(house, question, way), (total.numerator, total.denominator))


class CopyTest(unittest.TestCase):
    def test_arguments_are_not_modified(self):
        event = parse_event(TRIO, "z yes if x low y yes and x mid")
        question = [((1, 2), event), ((-1, 1), [])]
        way = ways(TRIO)[77]
        passed = copy.deepcopy((event, question, way, TRIO.names, TRIO.words, TRIO.heard))
        holds(TRIO, event, way)
        question_value(TRIO, question, way)
        format_event(TRIO, event)
        self.assertEqual((event, question, way, TRIO.names, TRIO.words, TRIO.heard), passed)

    def test_lists_are_new(self):
        text = "z yes if x low y yes and z yes if x low y yes and x mid and x mid"
        event = parse_event(TRIO, text)
        self.assertTrue(has_no_list_twice(event))
        self.assertFalse(share_lists(event, parse_event(TRIO, text)))
        self.assertFalse(share_lists(parse_event(TRIO, ""), parse_event(TRIO, "")))
        event[0][2].append((2, 1))
        event[2][2].append((2, 1))
        event.pop()
        self.assertEqual(format_event(TRIO, parse_event(TRIO, text)), text)


class InterfaceTest(unittest.TestCase):
    def test_names_and_arguments(self):
        arguments = {
            "holds": ["house", "event", "way"], "question_value": ["house", "question", "way"],
            "parse_event": ["house", "text"], "format_event": ["house", "event"]}
        for name, parameters in arguments.items():
            function = getattr(module, name)
            self.assertEqual(list(inspect.signature(function).parameters), parameters)
            self.assertEqual(function.__module__, "otherhow.events")


if __name__ == "__main__":
    unittest.main()
