import copy
import inspect
import random
import unittest
from fractions import Fraction

from otherhow import ends as module
from otherhow.ends import greatest, least, possible
from otherhow.events import parse_event
from otherhow.houses import parse_house
from otherhow.mixes import agrees, value_in
from otherhow.papers import judge_none, judge_paper
from otherhow.sentences import parse_sentence
from otherhow.tables import Data
from tests.support import (
    PAIR, exact, has_no_list_twice, house_of, minus, negated, random_experiment, random_mix, random_question,
    random_sentences, sample_houses, share_lists, table_near, told, world, worth)

ZERO, QUARTER, HALF, MOST, ONE = (0, 1), (1, 4), (1, 2), (3, 4), (1, 1)
FREE = (ZERO, ONE)
NOBODY = [("never", 1, 0, 0, 1), ("never", 1, 1, 0, 1)]
BOTH = "y yes if x yes and y no if x no"


def pair(tables=(), sentences=()):
    return Data(parse_house(PAIR), list(sentences), list(tables))


def known(*chances):
    return [(chance, chance) for chance in chances]


def asked(data, text, factor=ONE):
    return [(factor, parse_event(data.house, text))]


class EndsCase(unittest.TestCase):
    def checked(self, data, question):
        """The least and the greatest as Fractions, or None and None; all that point 20 says is checked."""
        passed = copy.deepcopy((question, data.sentences, data.tables, data.ways))
        answers = (possible(data), least(data, question), greatest(data, question))
        self.assertEqual((question, data.sentences, data.tables, data.ways), passed)
        self.assertTrue(has_no_list_twice(answers))
        self.assertFalse(share_lists(answers, [question, data.sentences, data.tables, data.ways]))
        self.assertEqual([type(answer) for answer in answers], [tuple] * 3)
        if answers[0][0] == "none":
            for answer in answers:
                self.assertEqual((len(answer), answer[0]), (2, "none"))
                self.assertIs(judge_none(data, self.formed(answer[1])), True)
            return None, None
        self.assertEqual((len(answers[0]), answers[0][0]), (2, "mix"))
        self.assertIs(agrees(data, answers[0][1]), True)
        low = self.end(data, question, answers[1])
        name, value, mix, paper = answers[2]
        high = -self.end(data, negated(question), (name, minus(value), mix, paper))
        self.assertEqual(value_in(data, question, mix), value)
        self.assertLessEqual(low, high)
        self.assertTrue(low <= exact(value_in(data, question, answers[0][1])) <= high)
        return low, high

    def end(self, data, question, answer):
        name, value, mix, paper = answer
        self.assertEqual(name, "end")
        self.assertIs(agrees(data, mix), True)
        self.assertEqual(value_in(data, question, mix), value)
        self.assertIs(judge_paper(data, question, value, self.formed(paper)), True)
        return exact(value)

    def formed(self, paper):
        """The paper, whose numbers are looked at."""
        self.assertIs(type(paper), tuple)
        exact(paper[0])
        for listed in paper[1]:
            for low_price, high_price in listed:
                self.assertTrue(exact(low_price) >= 0 and exact(high_price) >= 0)
        return paper


class ExampleTest(EndsCase):
    def setUp(self):
        first = ([(0, 1)], [1], known(QUARTER, MOST))
        second = ([(0, 0)], [1], known(MOST, QUARTER))
        self.tables = [first, second]

    def test_the_example(self):
        data = pair(self.tables)
        self.assertEqual(self.checked(data, asked(data, BOTH)), (Fraction(1, 2), Fraction(3, 4)))
        self.assertEqual(least(data, asked(data, BOTH))[1], (1, 2))
        self.assertEqual(greatest(data, asked(data, BOTH))[1], (3, 4))

    def test_one_table(self):
        for tables in (self.tables[:1], self.tables[1:]):
            data = pair(tables)
            self.assertEqual(self.checked(data, asked(data, BOTH)), (0, Fraction(3, 4)))

    def test_factors_of_either_sign(self):
        data = pair(self.tables)
        for factor in (Fraction(-1), Fraction(3), Fraction(-2, 7), Fraction(0), Fraction(1, 10 ** 40)):
            expected = sorted([factor / 2, factor * 3 / 4])
            self.assertEqual(list(self.checked(data, asked(data, BOTH, told(factor)))), expected)

    def test_no_term_and_fixed_terms(self):
        for data in (pair(self.tables), pair()):
            self.assertEqual(self.checked(data, []), (0, 0))
            self.assertEqual(self.checked(data, [((-5, 3), [])]), (Fraction(-5, 3), Fraction(-5, 3)))
            self.assertEqual(self.checked(data, asked(data, "x yes and x no")), (0, 0))

    def test_several_terms(self):
        data = pair(self.tables)
        question = asked(data, "y yes if x yes") + asked(data, "y yes if x no", (-1, 1))
        self.assertEqual(self.checked(data, question), (Fraction(1, 2), Fraction(1, 2)))
        question = asked(data, BOTH) + asked(data, "y no if x yes and y yes if x no", (-1, 1))
        self.assertEqual(self.checked(data, question), (Fraction(1, 2), Fraction(1, 2)))
        question = asked(data, BOTH) + asked(data, "y no if x yes and y yes if x no", (2, 1))
        self.assertEqual(self.checked(data, question), (Fraction(1, 2), Fraction(5, 4)))

    def test_sentences(self):
        for text, ends in [
                ("y rises with x", (Fraction(1, 2),) * 2), ("y falls with x", (None, None)),
                ("y ignores x", (None, None)), ("y never no when x no", (None, None)),
                ("y never no when x yes", (None, None))]:
            data = pair(self.tables, [parse_sentence(parse_house(PAIR), text)])
            self.assertEqual(self.checked(data, asked(data, BOTH)), ends)

    def test_sentences_without_tables(self):
        for text, ends in [
                ("y rises with x", (0, 1)), ("y falls with x", (0, 0)), ("y ignores x", (0, 0)),
                ("y never no when x no", (0, 0)), ("y never no when x yes", (0, 1))]:
            data = pair([], [parse_sentence(parse_house(PAIR), text)])
            self.assertEqual(self.checked(data, asked(data, BOTH)), ends)


class NoneTest(EndsCase):
    def test_no_way(self):
        for tables in ([], [([], [0], [FREE, FREE])], [([], [0], [FREE, FREE]), ([(0, 1)], [0, 1], [FREE] * 4)]):
            data = pair(tables, NOBODY)
            for question in ([], [(ONE, [])], asked(data, BOTH), asked(data, BOTH, (-3, 1))):
                self.assertEqual(self.checked(data, question), (None, None))
                self.assertEqual(len(least(data, question)[1][1]), len(tables))

    def test_one_table_that_no_mix_agrees_with(self):
        for bounds in (known(ONE, ONE), known(ZERO, ZERO), known(HALF, (2, 5)), [(ZERO, QUARTER), (ZERO, HALF)],
                       [(HALF, ONE), (told(Fraction(1, 2) + Fraction(1, 10 ** 50)), ONE)]):
            data = pair([([], [1], bounds)])
            self.assertEqual(self.checked(data, asked(data, BOTH)), (None, None))

    def test_tables_that_agree_only_alone(self):
        tables = [([(0, 1)], [1], [FREE, (ZERO, QUARTER)]), ([], [0, 1], [FREE, FREE, FREE, (HALF, HALF)])]
        for some in (tables[:1], tables[1:]):
            self.assertNotEqual(self.checked(pair(some), []), (None, None))
        self.assertEqual(self.checked(pair(tables), []), (None, None))
        self.assertEqual(self.checked(pair(tables[::-1] + tables), []), (None, None))

    def test_exactly_at_the_edge(self):
        tiny = Fraction(1, 10 ** 50)
        for more, agreed in [(-tiny, True), (Fraction(0), True), (tiny, False)]:
            high = told(Fraction(1, 2) + more)
            data = pair([([(0, 1)], [1], [FREE, (HALF, ONE)]), ([(0, 1)], [1], [(high, ONE), FREE])])
            self.assertEqual(self.checked(data, []) == (0, 0), agreed)


class KnownBoundsTest(EndsCase):
    """Bounds that are known as formulas of the chances."""

    def random_pair(self, numbers, sentences=()):
        free = pair(sentences=sentences)
        mix = random_mix(len(free.ways), numbers)
        seen = table_near(free, mix, ([], [0, 1]), [0], numbers)
        asked_yes = table_near(free, mix, ([(0, 1)], [1]), [0], numbers)
        asked_no = table_near(free, mix, ([(0, 0)], [1]), [0], numbers)
        return seen, asked_yes, asked_no

    def test_one_world_from_what_is_seen(self):
        numbers = random.Random(1)
        for _ in range(25):
            seen, _, _ = self.random_pair(numbers)
            chances = [Fraction(*low) for low, _ in seen[2]]
            data = pair([seen])
            self.assertEqual(self.checked(data, asked(data, "y yes if x yes")), (chances[3], 1 - chances[2]))
            self.assertEqual(self.checked(data, asked(data, "y yes if x no")), (chances[1], 1 - chances[0]))
            self.assertEqual(self.checked(data, asked(data, "y yes")), (chances[1] + chances[3],) * 2)

    def test_two_worlds_from_two_experiments(self):
        numbers = random.Random(2)
        for _ in range(25):
            _, yes, no = self.random_pair(numbers)
            a, b = Fraction(*yes[2][1][0]), Fraction(*no[2][1][0])
            data = pair([yes, no])
            self.assertEqual(self.checked(data, asked(data, BOTH)), (max(0, a - b), min(a, 1 - b)))
            rising = pair([yes, no], [("rises", 1, 0)])
            expected = (a - b, a - b) if a >= b else (None, None)
            self.assertEqual(self.checked(rising, asked(rising, BOTH)), expected)

    def test_two_worlds_from_what_is_seen_and_two_experiments(self):
        numbers = random.Random(3)
        for _ in range(25):
            seen, yes, no = self.random_pair(numbers)
            a, b = Fraction(*yes[2][1][0]), Fraction(*no[2][1][0])
            s = [Fraction(*low) for low, _ in seen[2]]
            data = pair([no, seen, yes])
            low = max(0, a - b, s[1] + s[3] - b, a - s[1] - s[3])
            high = min(a, 1 - b, s[3] + s[0], a - b + s[2] + s[1])
            self.assertEqual(self.checked(data, asked(data, BOTH)), (low, high))

    def test_room_between_low_and_high(self):
        for low, high in [(ZERO, ONE), (QUARTER, MOST), (QUARTER, QUARTER), (ZERO, ZERO), (ONE, ONE), (HALF, ONE)]:
            ends = (Fraction(*low), Fraction(*high))
            for bounds in ([FREE, (low, high)], [(told(1 - ends[1]), told(1 - ends[0])), FREE]):
                data = pair([([(0, 1)], [1], bounds)])
                self.assertEqual(self.checked(data, asked(data, "y yes if x yes")), ends)
        data = pair([([(0, 1)], [1], [(HALF, MOST), (QUARTER, MOST)])])
        self.assertEqual(self.checked(data, asked(data, "y yes if x yes")), (Fraction(1, 4), Fraction(1, 2)))

    def test_without_tables_the_ends_are_those_of_the_ways(self):
        numbers = random.Random(4)
        for house in sample_houses()[:11]:
            data = Data(house, random_sentences(house, numbers), [])
            question = random_question(house, numbers)
            values = [worth(house, question, way) for way in data.ways]
            expected = (min(values), max(values)) if values else (None, None)
            self.assertEqual(self.checked(data, question), expected)


class RandomTest(EndsCase):
    def test_tables_that_agree(self):
        numbers = random.Random(5)
        tiny = Fraction(1, 10 ** 30)
        for house in sample_houses():
            for rooms in ([0], [0, tiny], [0, Fraction(1, 10), Fraction(1, 3)]):
                free = Data(house, random_sentences(house, numbers), [])
                if not free.ways:
                    continue
                mix = random_mix(len(free.ways), numbers)
                tables = [table_near(free, mix, random_experiment(house, numbers), rooms, numbers)
                          for _ in range(numbers.randint(0, 4))]
                data = Data(house, free.sentences, tables)
                question = random_question(house, numbers)
                low, high = self.checked(data, question)
                self.assertTrue(low <= exact(value_in(data, question, mix)) <= high)
                wider = self.checked(Data(house, free.sentences, tables[:-1]), question)
                self.assertTrue(wider[0] <= low and high <= wider[1])

    def test_tables_that_often_do_not_agree(self):
        numbers = random.Random(6)
        seen = []
        for house in sample_houses()[:12]:
            for _ in range(4):
                free = Data(house, [], [])
                mixes = [random_mix(len(free.ways), numbers) for _ in range(2)]
                tables = [
                    table_near(
                        free, numbers.choice(mixes), random_experiment(house, numbers), [0, Fraction(1, 5)], numbers)
                    for _ in range(4)]
                seen.append(self.checked(Data(house, [], tables), random_question(house, numbers)) == (None, None))
        self.assertGreater(seen.count(True), 5)
        self.assertGreater(seen.count(False), 5)

    def test_a_large_house_with_many_tables(self):
        numbers = random.Random(7)
        house = house_of(("x", "a b", ""), ("u", "a b", ""), ("y", "a b", "x"), ("z", "a b", "u y"), ("w", "a b", ""))
        free = Data(house, [], [])
        self.assertEqual(len(free.ways), 512)
        mix = random_mix(512, numbers)
        for rooms in ([0], [0, Fraction(1, 20)]):
            tables = []
            while len(tables) < 8:
                table = table_near(free, mix, random_experiment(house, numbers), rooms, numbers)
                if len(table[2]) == 4:
                    tables.append(table)
            question = random_question(house, numbers, 12) + [(ONE, [(3, 1, []), (3, 0, [(0, 1)])])]
            low, high = self.checked(Data(house, [], tables), question)
            self.assertTrue(low <= exact(value_in(free, question, mix)) <= high)

    def test_an_event_of_eight_worlds(self):
        house = house_of(("x", "a b", ""), ("y", "p q r", "x"), ("z", "m n", "y"))
        text = ("z m if x a and z n if x b and y p if x a and y q if x b and z n if x a y r and z m if x b y p "
                "and x a and y r if y r")
        data = Data(house, [], [([], [0], known(QUARTER, MOST)), ([(0, 1)], [2], known(HALF, HALF))])
        question = [(ONE, parse_event(house, text))]
        holding = [way for way in data.ways if worth(house, question, way) == 1]
        self.assertTrue(holding)
        self.assertTrue(all(world(house, way, [])[0] == 0 for way in holding))
        self.assertEqual(self.checked(data, question), (0, Fraction(1, 4)))


class NewTest(EndsCase):
    def test_what_is_returned_is_new(self):
        data = pair([([(0, 1)], [1], known(QUARTER, MOST)), ([(0, 0)], [1], known(MOST, QUARTER))])
        question = asked(data, BOTH)
        for call in (lambda: possible(data), lambda: least(data, question), lambda: greatest(data, question)):
            first = call()
            kept = copy.deepcopy(first)
            second = call()
            self.assertFalse(share_lists(first, second))
            for part in second:
                if isinstance(part, list):
                    part.clear()
            if isinstance(second[-1], tuple):
                second[-1][1][0].clear()
                second[-1][1].append([])
            self.assertEqual(call(), kept)
            self.assertEqual(first, kept)


class InterfaceTest(unittest.TestCase):
    def test_names_and_arguments(self):
        arguments = {"possible": ["data"], "least": ["data", "question"], "greatest": ["data", "question"]}
        for name, parameters in arguments.items():
            function = getattr(module, name)
            self.assertEqual(list(inspect.signature(function).parameters), parameters)
            self.assertEqual(function.__module__, "otherhow.ends")


if __name__ == "__main__":
    unittest.main()
