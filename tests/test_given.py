import copy
import inspect
import random
import unittest
from fractions import Fraction

from otherhow import given as module
from otherhow.ends import least, possible
from otherhow.events import holds, parse_event
from otherhow.given import judge_given, judge_never, least_given
from otherhow.houses import parse_house
from otherhow.mixes import agrees
from otherhow.sentences import parse_sentence
from otherhow.tables import Data
from tests.support import (
    PAIR, exact, has_no_list_twice, house_of, random_event, random_experiment, random_mix, random_question,
    random_sentences, row_number, sample_houses, share_lists, table_near, told, worth)

ZERO, QUARTER, HALF, MOST, ONE = (0, 1), (1, 4), (1, 2), (3, 4), (1, 1)
FREE = (ZERO, ONE)
NONE = (ZERO, ZERO)
TINY = Fraction(1, 10 ** 40)
NOBODY = [("never", 1, 0, 0, 1), ("never", 1, 1, 0, 1)]
SEEN = ([], [0, 1])


def pair(tables=(), *texts):
    house = parse_house(PAIR)
    return Data(house, [parse_sentence(house, text) for text in texts], list(tables))


def known(*chances):
    return [(chance, chance) for chance in chances]


def event(data, text):
    return parse_event(data.house, text)


def asked(data, text, factor=ONE):
    return [(factor, event(data, text))]


def comes_to(data, paper, way):
    """What a given paper comes to for a way, as a Fraction."""
    total = Fraction(0)
    for (setting, seen, bounds), listed in zip(data.tables, paper):
        at = row_number(data.house, setting, seen, way)
        for row, ((low, high), (low_price, high_price)) in enumerate(zip(bounds, listed)):
            h = 1 if row == at else 0
            total += Fraction(*low_price) * (h - Fraction(*low)) + Fraction(*high_price) * (Fraction(*high) - h)
    return total


class JudgeGivenTest(unittest.TestCase):
    def setUp(self):
        """The chance of x yes is from 1/4 to 1/2, and y says yes there with a chance of 1/4 of all."""
        self.data = pair([([], [0, 1], [FREE, FREE, (ZERO, QUARTER), (QUARTER, HALF)])])
        self.condition = event(self.data, "x yes")
        self.question = asked(self.data, "y yes")
        self.paper = [[NONE, NONE, (ZERO, HALF), (HALF, ZERO)]]

    def judged(self, value, paper):
        return judge_given(self.data, self.question, self.condition, value, paper)

    def test_accepted_up_to_a_value(self):
        for value, expected in [
                ((-1, 1), True), (ZERO, True), (told(Fraction(1, 2) - TINY), True), (HALF, True),
                (told(Fraction(1, 2) + TINY), False), (ONE, False)]:
            self.assertIs(self.judged(value, self.paper), expected, value)

    def test_no_prices(self):
        for value, expected in [((-1, 3), True), (ZERO, True), (told(TINY), False)]:
            self.assertIs(self.judged(value, [[NONE] * 4]), expected)

    def test_the_bounds_count_where_the_row_does_not_hold(self):
        # Of x no the paper comes to -1/8 + 1/8.
        for change, expected in [(told(Fraction(1, 2) - TINY), True), (told(Fraction(1, 2) + TINY), False)]:
            self.assertIs(self.judged((1, 3), [[NONE, NONE, (ZERO, change), (HALF, ZERO)]]), expected)
        for change, expected in [(told(Fraction(1, 2) - TINY), False), (told(Fraction(1, 2) + TINY), True)]:
            self.assertIs(self.judged((1, 3), [[NONE, NONE, (ZERO, HALF), (change, ZERO)]]), expected)

    def test_low_and_high_prices_are_told_apart(self):
        self.assertIs(self.judged(HALF, [[NONE, NONE, (HALF, ZERO), (HALF, ZERO)]]), False)
        self.assertIs(self.judged(HALF, [[NONE, NONE, (ZERO, HALF), (ZERO, HALF)]]), False)
        self.assertIs(self.judged(HALF, [[NONE, NONE, (HALF, ZERO), (ZERO, HALF)]]), False)
        self.assertIs(self.judged(HALF, [[(HALF, ZERO), (ZERO, HALF), NONE, NONE]]), False)

    def test_a_price_below_0(self):
        for wrong in (((-1, 10 ** 40), ZERO), (ZERO, (-1, 10 ** 40))):
            for at in range(4):
                listed = [NONE] * 4
                listed[at] = wrong
                self.assertIs(self.judged((-9, 1), [listed]), False)
                self.assertIs(judge_never(self.data, event(self.data, "x yes and x no"), [listed]), False)
        self.assertIs(self.judged((-9, 1), [[NONE] * 4]), True)

    def test_lists_of_the_wrong_length(self):
        listed = self.paper[0]
        for paper in ([], [listed, listed], [listed, []], [listed[:3]], [listed + [NONE]], [[]], [listed[1:]]):
            self.assertIs(self.judged((-9, 1), paper), False)
            self.assertIs(judge_never(self.data, event(self.data, "x yes and x no"), paper), False)
        empty = pair()
        self.assertIs(judge_given(empty, [], [], ZERO, [[]]), False)
        self.assertIs(judge_given(empty, [], [], ZERO, []), True)

    def test_refused_at_one_way_only(self):
        for at, way in enumerate(self.data.ways):
            only = [(0, way[0][0], []), (1, way[1][0], [(0, 0)]), (1, way[1][1], [(0, 1)])]
            question = self.question + [(told(-TINY), only)]
            self.assertIs(holds(self.data.house, self.condition, way), at >= 4)
            room = worth(self.data.house, self.question, way) - Fraction(1, 2) - comes_to(self.data, self.paper, way)
            self.assertIs(judge_given(self.data, question, self.condition, HALF, self.paper), at < 4 or room > 0)
            question = self.question + [(told(TINY), only)]
            self.assertIs(judge_given(self.data, question, self.condition, HALF, self.paper), True)

    def test_refused_at_one_way_of_which_the_event_does_not_hold(self):
        data = pair([([(0, 0)], [1], [FREE, (HALF, ONE)])], "y never yes when x yes")
        paper = [[NONE, (ONE, ZERO)]]
        for text, accepted in [("x no", False), ("y yes if x no", True), ("", True)]:
            condition = event(data, text)
            others = [way for way in data.ways if not holds(data.house, condition, way)]
            above = [way for way in others if comes_to(data, paper, way) > 0]
            self.assertEqual(len(above), 0 if accepted else 1)
            self.assertIs(judge_given(data, [(ONE, [])], condition, HALF, paper), accepted)
            self.assertIs(judge_given(data, [(ONE, [])], condition, (-9, 1), paper), accepted)

    def test_data_without_ways(self):
        data = Data(parse_house(PAIR), NOBODY, [([], [0], [FREE, FREE])])
        self.assertIs(judge_given(data, [], [], (99, 1), [[NONE, NONE]]), True)
        self.assertIs(judge_never(data, [], [[NONE, NONE]]), True)
        self.assertIs(judge_never(data, [], [[NONE]]), False)
        self.assertIs(judge_never(data, [], [[NONE, ((-1, 1), ZERO)]]), False)


class JudgeNeverTest(unittest.TestCase):
    def setUp(self):
        self.data = pair([([], [0], [(HALF, ONE), (ZERO, ZERO)])])
        self.condition = event(self.data, "x yes")
        self.paper = [[NONE, (ZERO, ONE)]]

    def test_accepted(self):
        self.assertIs(judge_never(self.data, self.condition, self.paper), True)
        self.assertIs(judge_never(self.data, self.condition, [[NONE, (ZERO, (7, 2))]]), True)
        self.assertIs(judge_never(self.data, event(self.data, "x yes and y no if x no"), self.paper), True)

    def test_at_most_minus_1_at_the_ways_of_the_event(self):
        self.assertIs(judge_never(self.data, self.condition, [[NONE, (ZERO, told(1 - TINY))]]), False)
        self.assertIs(judge_never(self.data, self.condition, [[NONE, NONE]]), False)
        self.assertIs(judge_never(self.data, event(self.data, "x no"), self.paper), False)
        self.assertIs(judge_never(self.data, [], self.paper), False)

    def test_at_most_0_at_the_other_ways(self):
        for low_price, expected in [(ZERO, True), (told(TINY), False), (ONE, False)]:
            self.assertIs(judge_never(self.data, self.condition, [[(low_price, ZERO), (ZERO, (9, 1))]]), expected)
        self.assertIs(judge_never(self.data, self.condition, [[(ZERO, told(TINY)), (ZERO, (9, 1))]]), True)

    def test_refused_at_one_way_only(self):
        for way in self.data.ways:
            only = [(0, way[0][0], []), (1, way[1][0], [(0, 0)]), (1, way[1][1], [(0, 1)])]
            self.assertIs(judge_never(self.data, only, self.paper), way[0][0] == 1)
        data = Data(self.data.house, [("never", 1, 1, 0, 1), ("never", 1, 1, 0, 0)], self.data.tables)
        self.assertEqual(len(data.ways), 2)
        self.assertIs(judge_never(data, self.condition, self.paper), True)
        self.assertIs(judge_never(data, event(data, "y no"), self.paper), False)

    def test_an_event_that_holds_of_no_way(self):
        never = event(self.data, "x yes and x no")
        self.assertIs(judge_never(self.data, never, [[NONE, NONE]]), True)
        self.assertIs(judge_never(self.data, never, [[(told(TINY), ZERO), NONE]]), False)


class LeastGivenCase(unittest.TestCase):
    def checked(self, data, question, condition):
        """The least as a Fraction, or None for never; all that points 26 and 27 say is checked."""
        passed = copy.deepcopy((question, condition, data.sentences, data.tables, data.ways))
        answer = least_given(data, question, condition)
        self.assertEqual((question, condition, data.sentences, data.tables, data.ways), passed)
        self.assertIs(type(answer), tuple)
        self.assertTrue(has_no_list_twice(answer))
        self.assertFalse(share_lists(answer, [question, condition, data.tables, data.ways]))
        paper = answer[-1]
        self.assertTrue(all(exact(price) >= 0 for listed in paper for prices in listed for price in prices))
        if answer[0] == "never":
            self.assertEqual(len(answer), 2)
            self.assertIs(judge_never(data, condition, paper), True)
            for way in data.ways:
                limit = -1 if holds(data.house, condition, way) else 0
                self.assertLessEqual(comes_to(data, paper, way), limit)
            return None
        name, value, mix, _ = answer
        self.assertEqual(name, "end")
        self.assertIs(agrees(data, mix), True)
        self.assertEqual(self.given_in(data, question, condition, mix), exact(value))
        self.assertIs(judge_given(data, question, condition, value, paper), True)
        for way in data.ways:
            limit = worth(data.house, question, way) - exact(value) if holds(data.house, condition, way) else 0
            self.assertLessEqual(comes_to(data, paper, way), limit)
        return exact(value)

    def given_in(self, data, question, condition, mix):
        chosen = [(Fraction(*chance), worth(data.house, question, way)) for way, chance in zip(data.ways, mix)
                  if holds(data.house, condition, way)]
        total = sum([chance for chance, _ in chosen], Fraction(0))
        self.assertGreater(total, 0)
        return sum([chance * value for chance, value in chosen], Fraction(0)) / total


class LeastGivenTest(LeastGivenCase):
    def test_no_tables(self):
        data = pair()
        for text, condition, value in [
                ("y yes", "", 0), ("y yes", "x yes", 0), ("y yes", "y yes", 1), ("x yes", "x yes and y no", 1),
                ("y yes if x yes", "x no", 0), ("y yes if x yes", "x yes and y yes", 1),
                ("y yes", "x yes and x no", None)]:
            self.assertEqual(self.checked(data, asked(data, text), event(data, condition)), value)
        self.assertEqual(self.checked(data, [], event(data, "x yes")), 0)
        self.assertEqual(self.checked(data, [((-2, 7), [])], event(data, "y no")), Fraction(-2, 7))
        self.assertEqual(self.checked(data, asked(data, "y yes", (-3, 1)), event(data, "x yes")), -3)

    def test_an_event_that_always_holds(self):
        numbers = random.Random(1)
        for house in sample_houses()[:11]:
            free = Data(house, [], [])
            mix = random_mix(len(free.ways), numbers)
            tables = [table_near(free, mix, random_experiment(house, numbers), [0, Fraction(1, 4)], numbers)
                      for _ in range(3)]
            data = Data(house, [], tables)
            question = random_question(house, numbers)
            self.assertEqual(self.checked(data, question, []), exact(least(data, question)[1]))

    def test_from_what_is_seen(self):
        data = pair([([], [0, 1], known((1, 8), (2, 8), (4, 8), (1, 8)))])
        for text, condition, value in [
                ("y yes", "x yes", Fraction(1, 5)), ("y yes", "x no", Fraction(2, 3)),
                ("x yes", "y yes", Fraction(1, 3)),
                ("y yes if x yes", "x no", 0), ("y yes if x no", "x yes and y no", 0), ("y yes", "", Fraction(3, 8)),
                ("y yes if x yes", "x no and y no", 0), ("y no if x yes", "x yes", Fraction(4, 5))]:
            self.assertEqual(self.checked(data, asked(data, text), event(data, condition)), value)

    def test_what_an_answer_is_due_to(self):
        """Of those who answer yes when asked, how many would have answered no otherwise: a known formula."""
        numbers = random.Random(2)
        given = 0
        for _ in range(40):
            free = pair()
            mix = random_mix(8, numbers)
            tables = [table_near(free, mix, experiment, [0], numbers) for experiment in (SEEN, ([(0, 0)], [1]))]
            data = pair(tables)
            seen = [Fraction(*low) for low, _ in tables[0][2]]
            otherwise = Fraction(*tables[1][2][1][0])
            question, condition = asked(data, "y no if x no"), event(data, "x yes and y yes")
            found = self.checked(data, question, condition)
            found_most = self.checked(data, asked(data, "y no if x no", (-1, 1)), condition)
            if seen[3] == 0:
                self.assertEqual((found, found_most), (None, None))
                continue
            given += 1
            self.assertEqual(found, max(0, (seen[1] + seen[3] - otherwise) / seen[3]))
            self.assertEqual(-found_most, min(1, (1 - otherwise - seen[0]) / seen[3]))
        self.assertGreater(given, 20)

    def test_a_chance_above_0_in_some_mixes_only(self):
        data = pair([([], [0], [FREE, (ZERO, HALF)]), ([], [1], known(HALF, HALF))])
        self.assertEqual(self.checked(data, asked(data, "y yes"), event(data, "x yes")), 0)
        data = pair([([], [0, 1], [FREE, FREE, FREE, (QUARTER, HALF)])])
        self.assertEqual(self.checked(data, asked(data, "y yes"), event(data, "x yes")), Fraction(1, 4))
        data = pair([([], [0, 1], [FREE, FREE, (ZERO, QUARTER), (ZERO, HALF)])])
        self.assertEqual(self.checked(data, asked(data, "y yes", (-1, 1)), event(data, "x yes")), -1)
        tiny = (1, 10 ** 40)
        data = pair([([], [0, 1], [FREE, FREE, (ZERO, tiny), (tiny, ONE)])])
        self.assertEqual(self.checked(data, asked(data, "y yes"), event(data, "x yes")), Fraction(1, 2))

    def test_bounds_that_differ(self):
        data = pair([([], [0, 1], [(QUARTER, HALF), FREE, (QUARTER, HALF), (QUARTER, HALF)])])
        self.assertEqual(self.checked(data, asked(data, "y yes"), event(data, "x yes")), Fraction(1, 3))
        self.assertEqual(self.checked(data, asked(data, "y yes", (-1, 1)), event(data, "x yes")), Fraction(-2, 3))

    def test_sentences(self):
        tables = [([], [0, 1], known((1, 8), (2, 8), (1, 8), (4, 8)))]
        for text, value in [
                ("y rises with x", 1), ("y falls with x", 0), ("y ignores x", 1), ("y never no when x yes", None),
                ("y never no when x no", None)]:
            data = pair(tables, text)
            found = self.checked(data, asked(data, "y yes if x yes"), event(data, "x no and y yes"))
            self.assertEqual(found, value, text)
        data = pair([], "y rises with x")
        self.assertEqual(self.checked(data, asked(data, "y yes if x yes"), event(data, "y yes if x no")), 1)


class NeverTest(LeastGivenCase):
    def test_an_event_that_holds_of_no_way(self):
        for tables in ([], [([], [0], [FREE, FREE])], [SEEN + (known(QUARTER, QUARTER, HALF, ZERO),)]):
            data = pair(tables)
            for text in ("x yes and x no", "x no and y yes and y no if x no"):
                self.assertIsNone(self.checked(data, asked(data, "y yes"), event(data, text)))
        data = pair([], "y falls with x")
        self.assertIsNone(self.checked(data, [], event(data, "y no if x no and y yes if x yes")))

    def test_a_chance_of_0_in_all_mixes_that_agree(self):
        data = pair([([], [0], known(ONE, ZERO))])
        self.assertIsNone(self.checked(data, asked(data, "y yes"), event(data, "x yes")))
        self.assertIsNone(self.checked(data, asked(data, "y yes"), event(data, "x yes and y no if x no")))
        self.assertEqual(self.checked(data, asked(data, "y yes"), event(data, "x no")), 0)
        data = pair([([], [0], [(ONE, ONE), FREE])])
        self.assertIsNone(self.checked(data, [], event(data, "x yes")))
        data = pair([([(0, 1)], [1], known(HALF, HALF)), ([(0, 0)], [1], known(HALF, HALF))], "y rises with x")
        self.assertIsNone(self.checked(data, [], event(data, "y yes if x yes and y no if x no")))

    def test_no_mix_agrees(self):
        for tables in ([([], [0], known(ONE, ONE))], [([], [0], [(ZERO, QUARTER), (ZERO, QUARTER)])],
                       [([], [0], known(ONE, ZERO)), ([], [0], known(ZERO, ONE))]):
            data = pair(tables)
            self.assertEqual(possible(data)[0], "none")
            for text in ("", "x yes", "x no", "x yes and x no"):
                self.assertIsNone(self.checked(data, asked(data, "y yes"), event(data, text)))

    def test_no_way(self):
        for tables in ([], [([], [0], [FREE, FREE])]):
            data = Data(parse_house(PAIR), NOBODY, tables)
            for text in ("", "x yes"):
                self.assertIsNone(self.checked(data, asked(data, "y yes"), event(data, text)))


class RandomTest(LeastGivenCase):
    def test_random_data(self):
        numbers = random.Random(3)
        found = []
        for house in sample_houses():
            for rooms in ([0], [0, Fraction(1, 10), Fraction(1, 3)]):
                free = Data(house, random_sentences(house, numbers), [])
                if not free.ways:
                    continue
                mix = random_mix(len(free.ways), numbers)
                tables = [table_near(free, mix, random_experiment(house, numbers), rooms, numbers)
                          for _ in range(numbers.randint(1, 4))]
                data = Data(house, free.sentences, tables)
                question, condition = random_question(house, numbers), random_event(house, numbers, 3)
                found.append(self.checked(data, question, condition))
                if any(chance != ZERO and holds(house, condition, way) for way, chance in zip(data.ways, mix)):
                    self.assertLessEqual(found[-1], self.given_in(data, question, condition, mix))
        self.assertGreater(len([value for value in found if value is None]), 2)
        self.assertGreater(len([value for value in found if value is not None]), 10)

    def test_a_large_house(self):
        numbers = random.Random(4)
        house = house_of(("x", "a b", ""), ("y", "a b", "x"), ("z", "a b", "x y"), ("w", "a b", "x"))
        free = Data(house, [], [])
        self.assertEqual(len(free.ways), 512)
        mix = random_mix(512, numbers)
        tables = [table_near(free, mix, experiment, [0, Fraction(1, 30)], numbers) for experiment in [
            ([], [0, 1]), ([], [1, 2]), ([(0, 1)], [2, 3]), ([(0, 0)], [1, 3]), ([(1, 0)], [0, 2]), ([(2, 0)], [0, 1]),
            ([(0, 1), (1, 1)], [2, 3]), ([(0, 0)], [2, 3])]]
        data = Data(house, [], tables)
        question = [(ONE, parse_event(house, "z b if x a")), (HALF, parse_event(house, "w a if x b and y b if x a"))]
        self.assertIsNotNone(self.checked(data, question, parse_event(house, "x b and z a")))


class NewTest(unittest.TestCase):
    def test_what_is_returned_is_new(self):
        data = pair([([], [0, 1], known(QUARTER, QUARTER, HALF, ZERO))])
        for text in ("x yes", "x yes and y yes"):
            first = least_given(data, asked(data, "y yes if x no"), event(data, text))
            kept = copy.deepcopy(first)
            second = least_given(data, asked(data, "y yes if x no"), event(data, text))
            self.assertFalse(share_lists(first, second))
            second[-1][0].clear()
            second[-1].clear()
            self.assertEqual(least_given(data, asked(data, "y yes if x no"), event(data, text)), kept)
            self.assertEqual(first, kept)

    def test_judges_modify_nothing(self):
        data = pair([([], [0, 1], known(QUARTER, QUARTER, HALF, ZERO))])
        question, condition, paper = asked(data, "y yes if x no"), event(data, "x yes"), [[(ONE, ZERO)] * 4]
        passed = copy.deepcopy((question, condition, paper, data.tables, data.ways))
        judge_given(data, question, condition, ZERO, paper)
        judge_never(data, condition, paper)
        self.assertEqual((question, condition, paper, data.tables, data.ways), passed)


class InterfaceTest(unittest.TestCase):
    def test_names_and_arguments(self):
        arguments = {
            "judge_given": ["data", "question", "condition", "value", "paper"],
            "judge_never": ["data", "condition", "paper"], "least_given": ["data", "question", "condition"]}
        for name, parameters in arguments.items():
            function = getattr(module, name)
            self.assertEqual(list(inspect.signature(function).parameters), parameters)
            self.assertEqual(function.__module__, "otherhow.given")


if __name__ == "__main__":
    unittest.main()
