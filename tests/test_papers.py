import copy
import inspect
import random
import unittest
from fractions import Fraction

from otherhow import papers as module
from otherhow.events import parse_event
from otherhow.houses import parse_house
from otherhow.mixes import agrees, value_in
from otherhow.papers import judge_none, judge_paper
from otherhow.tables import Data
from tests.support import PAIR, even_mix, pure_mix, row_number, sample_houses, settings, told, world

ZERO, QUARTER, HALF, MOST, ONE = (0, 1), (1, 4), (1, 2), (3, 4), (1, 1)
FREE = (ZERO, ONE)
NONE = (ZERO, ZERO)
TINY = Fraction(1, 10 ** 40)
NOBODY = [("never", 1, 0, 0, 1), ("never", 1, 1, 0, 1)]


def pair(tables=(), sentences=()):
    return Data(parse_house(PAIR), list(sentences), list(tables))


def moved(paper, by):
    """The paper with its fixed number moved."""
    return (told(Fraction(*paper[0]) + by), paper[1])


def comes_to(data, paper, way):
    total = Fraction(*paper[0])
    for (setting, seen, _), listed in zip(data.tables, paper[1]):
        low_price, high_price = listed[row_number(data.house, setting, seen, way)]
        total += Fraction(*low_price) - Fraction(*high_price)
    return total


def gives(data, paper):
    return Fraction(*paper[0]) + sum([
        Fraction(*low_price) * Fraction(*low) - Fraction(*high_price) * Fraction(*high)
        for table, listed in zip(data.tables, paper[1])
        for (low, high), (low_price, high_price) in zip(table[2], listed)], Fraction(0))


def worth(data, question, way):
    return sum([Fraction(*factor) for factor, event in question if all(
        world(data.house, way, setting)[variable] == word for variable, word, setting in event)], Fraction(0))


class ExampleTest(unittest.TestCase):
    def setUp(self):
        first = ([(0, 1)], [1], [(QUARTER, QUARTER), (MOST, MOST)])
        second = ([(0, 0)], [1], [(MOST, MOST), (QUARTER, QUARTER)])
        self.data = pair([first, second])
        event = parse_event(self.data.house, "y yes if x yes and y no if x no")
        self.question = [(ONE, event)]
        self.one, self.two = [NONE, (ONE, ZERO)], [NONE, (ZERO, ONE)]
        self.paper = (ZERO, [self.one, self.two])

    def judged(self, value, paper):
        return judge_paper(self.data, self.question, value, paper)

    def test_the_example(self):
        self.assertIs(self.judged(HALF, self.paper), True)

    def test_it_gives_the_value_and_not_more(self):
        for value in (ZERO, (-5, 1), (1, 3), told(Fraction(1, 2) - TINY)):
            self.assertIs(self.judged(value, self.paper), True)
        for value in (told(Fraction(1, 2) + TINY), MOST, ONE):
            self.assertIs(self.judged(value, self.paper), False)

    def test_the_fixed_number(self):
        self.assertIs(self.judged(HALF, moved(self.paper, TINY)), False)
        self.assertIs(self.judged(HALF, moved(self.paper, -TINY)), False)
        self.assertIs(self.judged(told(Fraction(1, 2) - TINY), moved(self.paper, -TINY)), True)

    def test_low_and_high_prices_are_told_apart(self):
        self.assertIs(self.judged(HALF, (ZERO, [[NONE, (ZERO, ONE)], self.two])), False)
        self.assertIs(self.judged(HALF, (ZERO, [self.one, [NONE, (ONE, ZERO)]])), False)
        self.assertIs(self.judged(HALF, (ZERO, [self.one, [(ONE, ZERO), NONE]])), False)
        self.assertIs(self.judged(HALF, ((-1, 1), [self.one, [(ONE, ZERO), NONE]])), True)

    def test_the_price_of_both_bounds(self):
        """With low equal to high, equal prices for both come to nothing and give nothing."""
        for more in (ONE, (7, 3)):
            both = (told(1 + Fraction(*more)), more)
            self.assertIs(self.judged(HALF, (ZERO, [[(more, more), both], self.two])), True)

    def test_a_price_below_0(self):
        less = (-1, 10 ** 40)
        for wrong in ((less, ZERO), (ZERO, less), (less, less)):
            paper = (ZERO, [[wrong, (ONE, ZERO)], self.two])
            self.assertIs(self.judged((-9, 1), moved(paper, -2)), False)
            paper = (ZERO, [self.one, [NONE, wrong]])
            self.assertIs(self.judged((-9, 1), moved(paper, -2)), False)
            self.assertIs(judge_none(self.data, moved(paper, -2)), False)
        # A low price of -1 comes and gives as a high price of 1 does, but is none.
        self.assertIs(self.judged(HALF, (ZERO, [self.one, [NONE, ((-1, 1), ZERO)]])), False)
        self.assertIs(self.judged(HALF, (ZERO, [[NONE, (ZERO, (-1, 1))], self.two])), False)

    def test_lists_of_the_wrong_length(self):
        for prices in ([], [self.one], [self.one, self.two, []], [self.one, self.two, [NONE, NONE]],
                       [self.one, self.two + [NONE]], [self.one, [NONE]], [[], self.two], [self.one[1:], self.two],
                       [[NONE] + self.one, self.two], [[], []], [[NONE] * 4, []], [self.one + self.two]):
            for value in (HALF, (-9, 1)):
                self.assertIs(self.judged(value, (ZERO, prices)), False, prices)
            self.assertIs(self.judged((-9, 1), ((-5, 1), prices)), False, prices)
            self.assertIs(judge_none(self.data, (ZERO, prices)), False, prices)

    def test_the_data_are_not_refuted(self):
        for fixed in (ZERO, HALF, (-1, 2), ONE):
            self.assertIs(judge_none(self.data, (fixed, [self.one, self.two])), False)
            self.assertIs(judge_none(self.data, (fixed, [[NONE, NONE], [NONE, NONE]])), False)

    def test_arguments_are_not_modified(self):
        passed = copy.deepcopy((self.question, self.paper, self.data.tables, self.data.ways))
        self.judged(HALF, self.paper)
        judge_none(self.data, self.paper)
        self.assertEqual((self.question, self.paper, self.data.tables, self.data.ways), passed)


class JudgePaperTest(unittest.TestCase):
    def test_no_tables(self):
        data = pair()
        question = [((2, 1), parse_event(data.house, "x yes")), ((-1, 3), [])]
        self.assertIs(judge_paper(data, question, (-1, 3), ((-1, 3), [])), True)
        self.assertIs(judge_paper(data, question, (-1, 2), ((-1, 3), [])), True)
        self.assertIs(judge_paper(data, question, told(Fraction(-1, 3) + TINY), ((-1, 3), [])), False)
        self.assertIs(judge_paper(data, question, (-1, 2), (told(Fraction(-1, 3) + TINY), [])), False)
        self.assertIs(judge_paper(data, [], ZERO, (ZERO, [])), True)
        self.assertIs(judge_paper(data, [], ZERO, (ZERO, [[]])), False)

    def test_refused_at_one_way_only(self):
        data = pair([([], [0], [FREE, FREE])])
        for way in data.ways:
            event = [(0, way[0][0], []), (1, way[1][0], [(0, 0)]), (1, way[1][1], [(0, 1)])]
            paper = (ZERO, [[NONE, NONE]])
            self.assertIs(judge_paper(data, [(told(-TINY), event)], ZERO, paper), False)
            self.assertIs(judge_paper(data, [(told(TINY), event)], ZERO, paper), True)
            self.assertIs(judge_paper(data, [(told(-TINY), event)], told(-TINY), moved(paper, -TINY)), True)

    def test_low_and_high_that_differ(self):
        data = pair([([(0, 1)], [1], [(QUARTER, HALF), (HALF, MOST)])])
        question = [(ONE, parse_event(data.house, "y yes if x yes"))]
        for value, paper, expected in [
                (HALF, (ZERO, [[NONE, (ONE, ZERO)]]), True),
                (told(Fraction(1, 2) + TINY), (ZERO, [[NONE, (ONE, ZERO)]]), False),
                (HALF, (ONE, [[(ZERO, ONE), NONE]]), True),
                (MOST, (ONE, [[(ZERO, ONE), NONE]]), False),
                (HALF, (HALF, [[(ZERO, HALF), (HALF, ZERO)]]), True),
                (QUARTER, (HALF, [[(ZERO, HALF), (HALF, QUARTER)]]), True),
                (HALF, (HALF, [[(ZERO, HALF), (HALF, QUARTER)]]), False)]:
            self.assertIs(judge_paper(data, question, value, paper), expected, (value, paper))
        against = [((-1, 1), question[0][1])]
        self.assertIs(judge_paper(data, against, (-3, 4), (ZERO, [[NONE, (ZERO, ONE)]])), True)
        self.assertIs(judge_paper(data, against, (-1, 2), (ZERO, [[NONE, (ZERO, ONE)]])), False)

    def test_sentences_leave_ways_out(self):
        tables = [([(0, 0)], [1], [FREE, (HALF, ONE)])]
        paper = (ZERO, [[NONE, (ONE, ZERO)]])
        for sentences, expected in [([], False), ([("rises", 1, 0)], True), ([("falls", 1, 0)], False)]:
            data = pair(tables, sentences)
            question = [(ONE, parse_event(data.house, "y yes if x yes"))]
            self.assertIs(judge_paper(data, question, HALF, paper), expected)

    def test_data_without_ways(self):
        data = pair([([], [0], [FREE, FREE])], NOBODY)
        self.assertIs(judge_paper(data, [], (5, 1), ((5, 1), [[NONE, NONE]])), True)
        self.assertIs(judge_paper(data, [], (6, 1), ((5, 1), [[NONE, NONE]])), False)
        self.assertIs(judge_paper(data, [], (5, 1), ((5, 1), [[NONE]])), False)
        self.assertIs(judge_none(data, (told(TINY), [[NONE, NONE]])), True)
        self.assertIs(judge_none(data, (ZERO, [[NONE, NONE]])), False)
        self.assertIs(judge_none(data, (ONE, [[NONE, ((-1, 1), ZERO)]])), False)
        self.assertIs(judge_none(data, (ONE, [])), False)


class JudgeNoneTest(unittest.TestCase):
    def setUp(self):
        first = ([(0, 1)], [1], [FREE, (ZERO, QUARTER)])
        second = ([(0, 1)], [1], [FREE, (MOST, ONE)])
        self.data = pair([first, second])
        self.paper = (ZERO, [[NONE, (ZERO, ONE)], [NONE, (ONE, ZERO)]])

    def test_accepted(self):
        self.assertIs(judge_none(self.data, self.paper), True)
        self.assertIs(judge_none(self.data, moved(self.paper, -Fraction(1, 2) + TINY)), True)

    def test_gives_exactly_0(self):
        self.assertIs(judge_none(self.data, moved(self.paper, -Fraction(1, 2))), False)
        self.assertIs(judge_none(self.data, moved(self.paper, -1)), False)
        self.assertIs(judge_none(self.data, (ZERO, [[NONE, NONE], [NONE, NONE]])), False)

    def test_comes_to_more_than_0(self):
        self.assertIs(judge_none(self.data, moved(self.paper, TINY)), False)
        self.assertIs(judge_none(self.data, (ZERO, [[NONE, NONE], [NONE, (ONE, ZERO)]])), False)
        prices = [[NONE, (ZERO, ONE)], [NONE, (told(1 + TINY), ZERO)]]
        self.assertIs(judge_none(self.data, (ZERO, prices)), False)
        self.assertIs(judge_none(self.data, (told(-TINY), prices)), True)

    def test_refused_at_one_way_only(self):
        tables = [([(0, 0)], [1], [FREE, (MOST, MOST)]), ([(0, 1)], [1], [FREE, (HALF, HALF)])]
        paper = (ZERO, [[NONE, (ONE, ZERO)], [NONE, (ZERO, ONE)]])
        self.assertIs(judge_none(pair(tables, [("rises", 1, 0)]), paper), True)
        self.assertIs(judge_none(pair(tables), paper), False)
        tables.append(([(1, 1)], [0], [(ONE, ONE), NONE]))
        paper = (ZERO, paper[1] + [[(ONE, ZERO), NONE]])
        data = pair(tables)
        self.assertEqual([comes_to(data, moved(paper, -1), way) > 0 for way in data.ways].count(True), 1)
        self.assertIs(judge_none(data, moved(paper, -1)), False)

    def test_lists_of_the_wrong_length(self):
        one, two = self.paper[1]
        for prices in ([], [one], [one, two, []], [one, two, two], [one, two[1:]], [one[1:], two], [one + [NONE], two],
                       [one, two + [NONE]], [[NONE] + one, two], [[], []], [one + two]):
            self.assertIs(judge_none(self.data, (ZERO, prices)), False, prices)
            self.assertIs(judge_paper(self.data, [], (-9, 1), (ZERO, prices)), False, prices)

    def test_a_price_below_0(self):
        for at in range(2):
            for wrong in (((-1, 9), ZERO), (ZERO, (-1, 9))):
                prices = [list(listed) for listed in self.paper[1]]
                prices[at][0] = wrong
                self.assertIs(judge_none(self.data, (ZERO, prices)), False)
        negated = [[NONE, ((-1, 1), ZERO)], [NONE, (ZERO, (-1, 1))]]
        self.assertIs(judge_none(self.data, (ZERO, negated)), False)

    def test_not_refuted_without_one_of_the_tables(self):
        for at in range(2):
            data = pair([self.data.tables[at]])
            for prices in self.paper[1]:
                self.assertIs(judge_none(data, (ZERO, [prices])), False)


class OracleTest(unittest.TestCase):
    """Papers of prices at random, with the greatest fixed number that is accepted, and a little more."""

    def random_table(self, house, numbers):
        setting = numbers.choice(settings(house))
        seen = sorted(numbers.sample(range(len(house.names)), numbers.randint(1, min(2, len(house.names)))))
        many = 1
        for variable in seen:
            many *= len(house.words[variable])
        ends = [sorted([Fraction(numbers.randint(0, 6), 6) for _ in range(2)]) for _ in range(many)]
        return (setting, seen, [(told(low), told(high)) for low, high in ends])

    def random_prices(self, tables, numbers):
        return [[tuple((numbers.choice([0, 0, 1, 2]), 1) for _ in range(2)) for _ in bounds] for _, _, bounds in tables]

    def random_question(self, house, numbers):
        question = []
        for _ in range(numbers.randint(0, 3)):
            variable = numbers.randrange(len(house.names))
            condition = (variable, numbers.randrange(2), numbers.choice(settings(house)))
            question.append((told(Fraction(numbers.randint(-3, 3), 2)), [condition]))
        return question

    def test_papers(self):
        numbers = random.Random(3)
        for house in sample_houses()[:11]:
            for many in range(4):
                data = Data(house, [], [self.random_table(house, numbers) for _ in range(many)])
                question = self.random_question(house, numbers)
                paper = (ZERO, self.random_prices(data.tables, numbers))
                gaps = [worth(data, question, way) - comes_to(data, paper, way) for way in data.ways]
                paper = moved(paper, min(gaps))
                value = told(gives(data, paper))
                self.assertIs(judge_paper(data, question, value, paper), True)
                self.assertIs(judge_paper(data, question, told(gives(data, paper) + TINY), paper), False)
                self.assertIs(judge_paper(data, question, value, moved(paper, TINY)), False)
                self.assertIs(judge_paper(data, question, value, moved(paper, -TINY)), False)
                for mix in [even_mix(data)] + [pure_mix(data, at) for at in range(len(data.ways))][:20]:
                    if agrees(data, mix):
                        self.assertGreaterEqual(Fraction(*value_in(data, question, mix)), Fraction(*value))

    def test_refutations(self):
        numbers = random.Random(4)
        said = []
        for house in sample_houses()[:11]:
            for many in range(1, 5):
                data = Data(house, [], [self.random_table(house, numbers) for _ in range(many)])
                paper = (ZERO, self.random_prices(data.tables, numbers))
                paper = moved(paper, min([-comes_to(data, paper, way) for way in data.ways]))
                said.append(gives(data, paper) > 0)
                self.assertIs(judge_none(data, paper), said[-1])
                self.assertIs(judge_none(data, moved(paper, TINY)), False)
                self.assertIs(judge_none(data, moved(paper, -gives(data, paper))), False)
        self.assertEqual(sorted(set(said)), [False, True])


class InterfaceTest(unittest.TestCase):
    def test_names_and_arguments(self):
        arguments = {"judge_paper": ["data", "question", "value", "paper"], "judge_none": ["data", "paper"]}
        for name, parameters in arguments.items():
            function = getattr(module, name)
            self.assertEqual(list(inspect.signature(function).parameters), parameters)
            self.assertEqual(function.__module__, "otherhow.papers")


if __name__ == "__main__":
    unittest.main()
