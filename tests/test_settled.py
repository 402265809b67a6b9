import copy
import inspect
import itertools
import random
import unittest
from fractions import Fraction

from otherhow import settled as module
from otherhow.errors import BadText, NotAllowed, UnknownName
from otherhow.events import parse_event
from otherhow.houses import parse_house
from otherhow.mixes import is_mix, row_chances, value_in
from otherhow.sentences import parse_sentence
from otherhow.settled import assuming, formula_at, judge_formula, settled, settling
from otherhow.tables import Data
from tests.support import (
    PAIR, exact, has_no_list_twice, house_of, random_event, random_experiment, random_question, random_sentences,
    row_number, rows, sample_houses, share_lists, told, worth)

ZERO, THIRD, HALF, ONE = (0, 1), (1, 3), (1, 2), (1, 1)
TINY = Fraction(1, 10 ** 40)
FREE = (ZERO, ONE)
NOBODY = [("never", 1, 0, 0, 1), ("never", 1, 1, 0, 1)]
BOTH = "y yes if x yes and y no if x no"
SEEN, SEEN_X, SEEN_Y = ([], [0, 1]), ([], [0]), ([], [1])
DO_NO, DO_YES = ([(0, 0)], [1]), ([(0, 1)], [1])


def pair(*texts, tables=()):
    house = parse_house(PAIR)
    return Data(house, [parse_sentence(house, text) for text in texts], list(tables))


def asked(data, *terms):
    return [((factor, 1), parse_event(data.house, text)) for factor, text in terms]


def effect(data):
    return asked(data, (1, "y yes if x yes"), (-1, "y yes if x no"))


def rank(vectors):
    """The rank of lists of Fractions."""
    left = [list(vector) for vector in vectors]
    found = 0
    for column in range(len(left[0]) if left else 0):
        pivot = next((row for row in left if row[column] != 0), None)
        if pivot is None:
            continue
        found += 1
        left = [[a - b * row[column] / pivot[column] for a, b in zip(row, pivot)] for row in left if row is not pivot]
    return found


def is_settled(data, experiments, question):
    """Whether the question's values are a sum of multiples of 1 and of the rows that hold."""
    vectors = [[Fraction(1)] * len(data.ways)]
    for setting, seen in experiments:
        held = [row_number(data.house, setting, seen, way) for way in data.ways]
        vectors.extend([[Fraction(row == at) for row in held] for at in range(len(rows(data.house, seen)))])
    values = [worth(data.house, question, way) for way in data.ways]
    return rank(vectors) == rank(vectors + [values])


def least_by_definition(many, settles):
    """The sets that settle while none of their proper subsets does, in order."""
    sets = [list(chosen) for length in range(many + 1) for chosen in itertools.combinations(range(many), length)]
    good = [chosen for chosen in sets if settles(chosen)]
    return [chosen for chosen in good if not any(set(other) < set(chosen) for other in good)]


class FormulaTest(unittest.TestCase):
    def test_what_it_comes_to(self):
        data = pair()
        formula = (HALF, [[THIRD, (2, 1)], [ZERO, (-1, 1), (1, 7), (5, 1)]])
        for way, value in [
                ([[0], [0, 0]], Fraction(1, 2) + Fraction(1, 3)), ([[0], [0, 1]], Fraction(5, 2)),
                ([[0], [1, 1]], Fraction(3, 2)), ([[1], [0, 1]], Fraction(15, 2)),
                ([[1], [0, 0]], Fraction(1, 2) + Fraction(1, 3) + Fraction(1, 7))]:
            self.assertEqual(formula_at(data, [DO_YES, SEEN], formula, way), told(value))
            self.assertEqual(formula_at(data, [SEEN, DO_YES], (HALF, formula[1][::-1]), way), told(value))
            self.assertEqual(formula_at(data, [], ((-3, 4), []), way), (-3, 4))

    def test_accepted(self):
        data = pair()
        question = effect(data)
        for factors in ([[ZERO, ONE], [ZERO, (-1, 1)]], [[(-1, 1), ZERO], [ONE, ZERO]],
                        [[(5, 1), (6, 1)], [(-5, 1), (-6, 1)]], [[ZERO, ONE], [(7, 2), (5, 2)]]):
            fixed = ZERO if factors[1][1] != (5, 2) else (-7, 2)
            self.assertIs(judge_formula(data, [DO_YES, DO_NO], question, (fixed, factors)), True)
            self.assertIs(judge_formula(data, [DO_NO, DO_YES], question, (fixed, factors[::-1])), True)
            self.assertIs(judge_formula(data, [DO_NO, DO_YES], question, (fixed, factors)), False)
            for more in (TINY, -TINY):
                moved = (told(Fraction(*fixed) + more), factors)
                self.assertIs(judge_formula(data, [DO_YES, DO_NO], question, moved), False)

    def test_no_experiments(self):
        data = pair()
        question = [((2, 3), []), ((5, 1), parse_event(data.house, "x yes and x no"))]
        self.assertIs(judge_formula(data, [], question, ((2, 3), [])), True)
        self.assertIs(judge_formula(data, [], question, (told(Fraction(2, 3) + TINY), [])), False)
        self.assertIs(judge_formula(data, [], question, ((2, 3), [[]])), False)
        self.assertIs(judge_formula(data, [], [], (ZERO, [])), True)
        self.assertIs(judge_formula(data, [], effect(data), (ZERO, [])), False)

    def test_wrong_for_one_way_only(self):
        data = pair()
        for way in data.ways:
            event = [(0, way[0][0], []), (1, way[1][0], [(0, 0)]), (1, way[1][1], [(0, 1)])]
            for sign in (1, -1):
                question = asked(data, (1, "y yes if x yes")) + [(told(sign * TINY), event)]
                self.assertIs(judge_formula(data, [DO_YES], question, (ZERO, [[ZERO, ONE]])), False)
            self.assertIs(judge_formula(data, [DO_YES], question[:1], (ZERO, [[ZERO, ONE]])), True)

    def test_the_ways_are_those_of_the_data(self):
        formula = (ZERO, [[ZERO, ONE], [ZERO, (-1, 1)]])
        for texts, expected in [([], False), (["y rises with x"], True), (["y falls with x"], False)]:
            data = pair(*texts)
            self.assertIs(judge_formula(data, [DO_YES, DO_NO], asked(data, (1, BOTH)), formula), expected)

    def test_lists_of_the_wrong_length(self):
        for data in (pair(), Data(parse_house(PAIR), NOBODY, [])):
            for factors in ([], [[ZERO, ZERO]], [[ZERO, ZERO]] * 3, [[ZERO, ZERO], [ZERO]], [[ZERO], [ZERO, ZERO]],
                            [[ZERO] * 3, [ZERO] * 2], [[ZERO] * 2, [ZERO] * 3], [[], []], [[ZERO] * 4, []],
                            [[ZERO] * 2, [ZERO] * 2, []]):
                self.assertIs(judge_formula(data, [DO_YES, DO_NO], [], (ZERO, factors)), False, factors)
            self.assertIs(judge_formula(data, [DO_YES, DO_NO], [], (ZERO, [[ZERO, ZERO]] * 2)), True)
            self.assertIs(judge_formula(data, [SEEN], [], (ZERO, [[ZERO] * 4])), True)
            self.assertIs(judge_formula(data, [SEEN], [], (ZERO, [[ZERO] * 3])), False)
            self.assertIs(judge_formula(data, [SEEN], [], (ZERO, [[ZERO] * 5])), False)

    def test_data_without_ways(self):
        data = Data(parse_house(PAIR), NOBODY, [])
        for formula in ((ZERO, [[ZERO, ONE]]), ((-7, 3), [[(9, 1), (-2, 5)]])):
            self.assertIs(judge_formula(data, [DO_YES], effect(data), formula), True)


class SettledCase(unittest.TestCase):
    def checked(self, data, experiments, question):
        """Whether the question is settled; all that points 23 and 24 say of the answer is checked."""
        passed = copy.deepcopy((experiments, question, data.sentences, data.tables, data.ways))
        answer = settled(data, experiments, question)
        self.assertEqual((experiments, question, data.sentences, data.tables, data.ways), passed)
        self.assertIs(type(answer), tuple)
        self.assertTrue(has_no_list_twice(answer))
        self.assertFalse(share_lists(answer, [experiments, question, data.tables]))
        if answer[0] == "formula":
            name, formula = answer
            self.assertIs(type(formula), tuple)
            self.assertIs(judge_formula(data, experiments, question, formula), True)
            for number in [formula[0]] + sum(formula[1], []):
                exact(number)
            return True
        name, first, second = answer
        self.assertEqual(name, "apart")
        self.assertIs(is_mix(data, first) and is_mix(data, second), True)
        for setting, seen in experiments:
            self.assertEqual(row_chances(data, setting, seen, first), row_chances(data, setting, seen, second))
        self.assertNotEqual(value_in(data, question, first), value_in(data, question, second))
        return False


class SettledTest(SettledCase):
    def test_the_pair(self):
        data = pair()
        for terms, experiments, expected in [
                ([(1, "y yes if x yes")], [DO_YES], True), ([(1, "y yes if x yes")], [SEEN], False),
                ([(1, "y yes if x yes")], [DO_NO], False), ([(1, "y yes if x yes")], [SEEN, DO_NO], False),
                ([(1, "x yes")], [SEEN], True), ([(1, "x yes")], [SEEN_X], True), ([(1, "x yes")], [SEEN_Y], False),
                ([(1, "x yes and y yes")], [SEEN_X, SEEN_Y], False), ([(1, "x yes and y yes")], [SEEN], True),
                ([(1, "x yes and y yes if x yes")], [SEEN], True), ([(1, "x no and y yes if x yes")], [SEEN], False),
                ([(1, "x no and y yes if x yes")], [SEEN, DO_YES], True), ([(1, BOTH)], [DO_YES, DO_NO, SEEN], False),
                ([(1, BOTH), (-1, "y no if x yes and y yes if x no")], [DO_NO, DO_YES], True),
                ([(1, BOTH), (1, "y no if x yes and y yes if x no")], [DO_NO, DO_YES], False),
                ([], [], True), ([(5, "")], [], True), ([(5, "x yes")], [], False),
                ([(5, "x yes"), (5, "x no")], [], True)]:
            self.assertIs(self.checked(data, experiments, asked(data, *terms)), expected, (terms, experiments))
            self.assertIs(self.checked(data, experiments * 2, asked(data, *terms)), expected)

    def test_sentences(self):
        for texts, expected in [
                ([], False), (["y rises with x"], True), (["y falls with x"], True), (["y ignores x"], True),
                (["y never yes when x no"], True), (["y never no when x yes"], True)]:
            data = pair(*texts)
            self.assertIs(self.checked(data, [DO_YES, DO_NO], asked(data, (1, BOTH))), expected, texts)

    def test_data_without_ways(self):
        data = Data(parse_house(PAIR), NOBODY, [([], [0], [FREE, FREE])])
        for experiments in ([], [DO_YES], [SEEN, DO_NO]):
            for question in ([], effect(data), asked(data, (7, "x yes"))):
                self.assertIs(self.checked(data, experiments, question), True)

    def test_tables_change_nothing(self):
        tables = [
            ([(0, 1)], [1], [(ZERO, ZERO), (ONE, ONE)]), ([], [0, 1], [(ONE, ONE)] + [(ZERO, ZERO)] * 3),
            ([(0, 1)], [1], [(ONE, ONE), (ZERO, ZERO)])]
        for many in range(4):
            data = pair(tables=tables[:many])
            self.assertIs(self.checked(data, [DO_YES], asked(data, (1, "y yes if x yes"))), True)
            self.assertIs(self.checked(data, [SEEN], asked(data, (1, "y yes if x yes"))), False)
            self.assertIs(self.checked(data, [], asked(data, (1, "x yes"))), False)

    def test_against_the_rank(self):
        numbers = random.Random(1)
        said = []
        for house in sample_houses()[:11]:
            for _ in range(8):
                data = Data(house, random_sentences(house, numbers), [])
                experiments = [random_experiment(house, numbers) for _ in range(numbers.randint(0, 4))]
                question = random_question(house, numbers, 2) + [(ONE, random_event(house, numbers, 3))]
                said.append(self.checked(data, experiments, question))
                self.assertIs(said[-1], is_settled(data, experiments, question))
        self.assertGreater(said.count(True), 10)
        self.assertGreater(said.count(False), 10)

    def test_questions_that_formulas_make(self):
        """A question that asks for the rows of experiments, each times a factor of many digits, is settled."""
        numbers = random.Random(2)
        for house in sample_houses():
            data = Data(house, [], [])
            experiments = [random_experiment(house, numbers) for _ in range(3)]
            question = []
            for setting, seen in experiments:
                for row in rows(house, seen):
                    factor = told(Fraction(numbers.randint(-10 ** 30, 10 ** 30), numbers.randint(1, 10 ** 30)))
                    question.append((factor, [(variable, word, setting) for variable, word in zip(seen, row)]))
            self.assertIs(self.checked(data, experiments, question[:12]), True)

    def test_a_large_house(self):
        house = house_of(("x", "a b", ""), ("u", "a b", ""), ("y", "a b", "x"), ("z", "a b", "u y"), ("w", "a b", ""))
        data = Data(house, [], [])
        experiments = [([(0, k)], [2, 3]) for k in range(2)]
        experiments += [([(1, k), (2, j)], [0, 3]) for k in (0, 1) for j in (0, 1)]
        question = [(ONE, parse_event(house, "z b if u a y a")), (HALF, parse_event(house, "y a if x b"))]
        self.assertIs(self.checked(data, experiments, question), True)
        question.append((HALF, parse_event(house, "z b if u a y a and z a if u b y b")))
        self.assertIs(self.checked(data, experiments, question), False)


class SettlingTest(SettledCase):
    def found(self, data, experiments, further, question):
        passed = copy.deepcopy((experiments, further, question, data.sentences, data.tables))
        sets = settling(data, experiments, further, question)
        self.assertEqual((experiments, further, question, data.sentences, data.tables), passed)
        self.assertTrue(type(sets) is list and has_no_list_twice(sets) and all(type(one) is list for one in sets))
        self.assertFalse(share_lists(sets, settling(data, experiments, further, question)))
        return sets

    def test_the_pair(self):
        data = pair()
        for experiments, further, expected in [
                ([], [], []), ([DO_YES, DO_NO], [], [[]]), ([DO_YES, DO_NO], [SEEN, DO_YES], [[]]),
                ([DO_YES], [DO_NO], [[0]]), ([DO_YES], [SEEN, DO_NO], [[1]]), ([], [DO_YES, DO_NO], [[0, 1]]),
                ([SEEN], [SEEN_X, SEEN_Y, SEEN], []),
                ([], [DO_YES, SEEN, DO_NO, DO_YES], [[0, 2], [2, 3]]), ([DO_YES], [DO_NO] * 4, [[0], [1], [2], [3]]),
                ([DO_YES], [DO_YES, SEEN, SEEN_X, SEEN_Y], []), ([], [DO_NO, DO_NO, DO_YES, DO_YES], [
                    [0, 2], [0, 3], [1, 2], [1, 3]])]:
            self.assertEqual(self.found(data, experiments, further, effect(data)), expected)

    def test_sets_of_different_lengths(self):
        data = pair("y ignores x")
        question = asked(data, (1, "x yes and y yes if x no"))
        self.assertEqual(self.found(data, [], [SEEN_X, SEEN_Y, SEEN], question), [[2]])
        data = pair()
        question = asked(data, (1, "x yes"), (1, "y yes"))
        self.assertEqual(self.found(data, [], [SEEN_X, SEEN_Y, DO_YES, SEEN], question), [[3], [0, 1]])
        self.assertEqual(self.found(data, [], [SEEN, SEEN_Y, DO_YES, SEEN_X], question), [[0], [1, 3]])
        self.assertEqual(self.found(data, [], [SEEN_Y, SEEN_X], question), [[0, 1]])

    def test_three_and_four_together(self):
        data = pair()
        question = asked(data, (1, "x yes"), (2, "y yes"), (4, "y yes if x no"), (8, "y yes if x yes"))
        further = [DO_NO, SEEN_X, DO_YES, SEEN_Y]
        self.assertEqual(self.found(data, [], further, question), [[0, 1, 2, 3]])
        self.assertEqual(self.found(data, [SEEN_X], further, question), [[0, 2, 3]])
        self.assertEqual(self.found(data, [SEEN], further, question), [[0, 2]])

    def test_data_without_ways(self):
        data = Data(parse_house(PAIR), NOBODY, [])
        self.assertEqual(self.found(data, [], [SEEN, DO_NO], effect(data)), [[]])

    def test_against_the_definition(self):
        numbers = random.Random(3)
        lengths = []
        for house in sample_houses()[2:11]:
            for _ in range(5):
                data = Data(house, random_sentences(house, numbers, 1), [])
                experiments = [random_experiment(house, numbers) for _ in range(numbers.randint(0, 1))]
                further = [random_experiment(house, numbers) for _ in range(numbers.randint(0, 4))]
                question = [(ONE, [(seen[0], 0, setting)]) for setting, seen in further[:numbers.randint(0, 3)]]
                expected = least_by_definition(len(further), lambda chosen: is_settled(
                    data, experiments + [further[at] for at in chosen], question))
                self.assertEqual(self.found(data, experiments, further, question), expected)
                lengths.append(len(expected))
        self.assertGreater(max(lengths), 1)

    def test_more_than_four(self):
        data = pair()
        for further in ([SEEN] * 5, [DO_YES, DO_NO, SEEN, SEEN_X, SEEN_Y], [SEEN] * 8):
            with self.assertRaises(NotAllowed) as caught:
                settling(data, [], further, effect(data))
            self.assertNotIsInstance(caught.exception, (UnknownName, BadText))
        self.assertEqual(self.found(data, [], [SEEN] * 4, effect(data)), [])
        self.assertEqual(self.found(data, [], [SEEN] * 4, []), [[]])


class AssumingTest(SettledCase):
    def found(self, data, experiments, texts, question):
        further = [parse_sentence(data.house, text) for text in texts]
        passed = copy.deepcopy((experiments, further, question, data.sentences, data.tables, data.ways))
        sets = assuming(data, experiments, further, question)
        self.assertEqual((experiments, further, question, data.sentences, data.tables, data.ways), passed)
        self.assertTrue(type(sets) is list and has_no_list_twice(sets) and all(type(one) is list for one in sets))
        return sets

    def test_the_pair(self):
        rises, falls, ignores = "y rises with x", "y falls with x", "y ignores x"
        data = pair()
        question = asked(data, (1, BOTH))
        for experiments, texts, expected in [
                ([DO_YES, DO_NO], [], []), ([DO_YES, DO_NO], [rises], [[0]]), ([DO_YES], [rises], []),
                ([DO_YES, DO_NO], [rises, falls, ignores], [[0], [1], [2]]), ([], [falls], [[0]]),
                ([], [rises, falls], [[1]]), ([SEEN], [rises, rises, rises, rises], []),
                ([], ["y never no when x yes", "y never no when x no", "y never yes when x yes", rises], [[1], [2]]),
                ([], ["y never no when x yes", "y never yes when x no"], [[0, 1]]),
                ([DO_NO], ["y never no when x yes", "y never yes when x no"], [[0]])]:
            self.assertEqual(self.found(data, experiments, texts, question), expected, (experiments, texts))

    def test_sentences_that_leave_no_way_settle_all(self):
        data = pair()
        question = asked(data, (1, "x yes"))
        texts = ["y never no when x yes", "y rises with x", "y never yes when x yes"]
        self.assertEqual(self.found(data, [], texts, question), [[0, 2]])

    def test_sentences_are_added_to_those_of_the_data(self):
        question = asked(pair(), (1, BOTH))
        self.assertEqual(self.found(pair("y never no when x yes"), [], ["y never yes when x no"], question), [[0]])
        self.assertEqual(self.found(pair("y falls with x"), [], ["y never yes when x no"], question), [[]])
        self.assertEqual(self.found(pair(), [], ["y never yes when x no"], question), [])

    def test_already_settled(self):
        data = pair()
        self.assertEqual(self.found(data, [DO_YES, DO_NO], ["y ignores x"], effect(data)), [[]])
        self.assertEqual(self.found(data, [], [], []), [[]])
        self.assertEqual(self.found(Data(data.house, NOBODY, []), [], ["y ignores x"], effect(data)), [[]])

    def test_tables_change_nothing(self):
        table = ([(0, 1)], [1], [(ONE, ONE), (ONE, ONE)])
        data = pair(tables=[table])
        question = asked(data, (1, BOTH))
        self.assertEqual(self.found(data, [DO_YES, DO_NO], ["y rises with x"], question), [[0]])
        self.assertEqual(self.found(data, [], ["y rises with x"], question), [])

    def test_against_the_definition(self):
        numbers = random.Random(4)
        lengths = []
        for house in sample_houses()[2:11]:
            for _ in range(6):
                sentences = random_sentences(house, numbers, 1)
                data = Data(house, sentences, [])
                further = (random_sentences(house, numbers, 4) + random_sentences(house, numbers, 4))[:4]
                experiments = [random_experiment(house, numbers) for _ in range(numbers.randint(1, 3))]
                question = [(ONE, random_event(house, numbers, 3))]
                expected = least_by_definition(len(further), lambda chosen: is_settled(
                    Data(house, sentences + [further[at] for at in chosen], []), experiments, question))
                self.assertEqual(assuming(data, experiments, further, question), expected)
                lengths.append(len(expected))
        self.assertGreater(max(lengths), 1)

    def test_more_than_four(self):
        data = pair()
        further = [("rises", 1, 0)] * 4
        self.assertEqual(assuming(data, [DO_YES, DO_NO], further, asked(data, (1, BOTH))), [[0], [1], [2], [3]])
        for more in (1, 4):
            with self.assertRaises(NotAllowed) as caught:
                assuming(data, [], further + [("falls", 1, 0)] * more, asked(data, (1, BOTH)))
            self.assertNotIsInstance(caught.exception, (UnknownName, BadText))


class NewTest(SettledCase):
    def test_what_is_returned_is_new(self):
        data = pair()
        for question in (effect(data), asked(data, (1, BOTH))):
            first = settled(data, [DO_YES, DO_NO], question)
            kept = copy.deepcopy(first)
            second = settled(data, [DO_YES, DO_NO], question)
            self.assertFalse(share_lists(first, second))
            (second[1] if second[0] == "apart" else second[1][1]).clear()
            self.assertEqual(settled(data, [DO_YES, DO_NO], question), kept)
            self.assertEqual(first, kept)


class InterfaceTest(unittest.TestCase):
    def test_names_and_arguments(self):
        arguments = {
            "formula_at": ["data", "experiments", "formula", "way"],
            "judge_formula": ["data", "experiments", "question", "formula"],
            "settled": ["data", "experiments", "question"],
            "settling": ["data", "experiments", "further", "question"],
            "assuming": ["data", "experiments", "further", "question"]}
        for name, parameters in arguments.items():
            function = getattr(module, name)
            self.assertEqual(list(inspect.signature(function).parameters), parameters)
            self.assertEqual(function.__module__, "otherhow.settled")


if __name__ == "__main__":
    unittest.main()
