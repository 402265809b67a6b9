import copy
import inspect
import random
import unittest
from fractions import Fraction

from otherhow import mixes as module
from otherhow.events import parse_event
from otherhow.houses import parse_house
from otherhow.mixes import agrees, is_mix, row_chances, value_in
from otherhow.tables import Data
from tests.support import PAIR, even_mix, house_of, pure_mix, row_number, rows, sample_houses, settings, told, world

TRIO = house_of(("x", "low mid high", ""), ("y", "no yes", "x"), ("z", "no yes", "x y"))
ZERO, QUARTER, THIRD, HALF, ONE = (0, 1), (1, 4), (1, 3), (1, 2), (1, 1)
FREE = (ZERO, ONE)
TINY = Fraction(1, 10 ** 40)
NOBODY = [("never", 1, 0, 0, 1), ("never", 1, 1, 0, 1)]


def pair(tables=(), sentences=()):
    return Data(parse_house(PAIR), list(sentences), list(tables))


def random_mix(many, seed):
    numbers = random.Random(seed)
    parts = [numbers.choice([0, 0, 1, 2, 3, 7]) for _ in range(many)]
    parts[seed % many] += 1
    return [told(Fraction(part, sum(parts))) for part in parts]


def exact_chances(data, setting, seen, mix):
    chances = [Fraction(0)] * len(rows(data.house, seen))
    for way, chance in zip(data.ways, mix):
        chances[row_number(data.house, setting, seen, way)] += Fraction(*chance)
    return chances


class IsMixTest(unittest.TestCase):
    def test_mixes(self):
        data = pair()
        for mix in [even_mix(data), pure_mix(data, 0), pure_mix(data, 7), [HALF, HALF] + [ZERO] * 6,
                    [(1, 10 ** 40), (10 ** 40 - 1, 10 ** 40)] + [ZERO] * 6]:
            self.assertIs(is_mix(data, mix), True, mix)

    def test_sentences_leave_ways_out(self):
        data = pair(sentences=[("rises", 1, 0)])
        self.assertIs(is_mix(data, [(1, 6)] * 6), True)
        self.assertIs(is_mix(data, [(1, 8)] * 8), False)

    def test_a_chance_below_0(self):
        data = pair()
        self.assertIs(is_mix(data, [(-1, 2), ONE, HALF] + [ZERO] * 5), False)
        self.assertIs(is_mix(data, [ZERO] * 5 + [HALF, ONE, (-1, 2)]), False)
        self.assertIs(is_mix(data, [told(-TINY), told(1 + TINY)] + [ZERO] * 6), False)

    def test_sums_below_and_above_1(self):
        data = pair()
        for mix in [
                [ZERO] * 8, [HALF] + [ZERO] * 7, [HALF, HALF, HALF] + [ZERO] * 5, [ONE] * 8, [(1, 7)] * 8, [(1, 9)] * 8,
                [told(1 - TINY)] + [ZERO] * 7, [told(1 + TINY)] + [ZERO] * 7,
                [HALF, told(Fraction(1, 2) + TINY)] + [ZERO] * 6]:
            self.assertIs(is_mix(data, mix), False, mix)

    def test_too_few_and_too_many(self):
        data = pair()
        for mix in [[], [ONE], [(1, 7)] * 7, [(1, 9)] * 9, pure_mix(data, 0)[:7], pure_mix(data, 0) + [ZERO]]:
            self.assertIs(is_mix(data, mix), False, mix)

    def test_data_without_ways(self):
        data = pair(sentences=NOBODY)
        for mix in ([], [ONE], [ZERO], [(1, 8)] * 8):
            self.assertIs(is_mix(data, mix), False)
            self.assertIs(agrees(data, mix), False)

    def test_values_that_are_no_chances(self):
        data = pair()
        for wrong in [None, 0, 1, "1", (), (1,), (0, 2), (2, 2), (1, 0), (0, 1, 1), [0, 1], (True, 1), (0, None)]:
            self.assertIs(is_mix(data, [wrong, ONE] + [ZERO] * 6), False, wrong)
            self.assertIs(agrees(data, [ONE] + [ZERO] * 6 + [wrong]), False, wrong)
        for mix in (None, 1, "mix", tuple(pure_mix(data, 0)), {0: ONE}):
            self.assertIs(is_mix(data, mix), False)
            self.assertIs(agrees(data, mix), False)


class ChancesTest(unittest.TestCase):
    def test_the_pair(self):
        data = pair()
        mix = [HALF, ZERO, QUARTER, ZERO, ZERO, (1, 8), ZERO, (1, 8)]
        self.assertEqual(row_chances(data, [], [0], mix), [(3, 4), QUARTER])
        self.assertEqual(row_chances(data, [], [1], mix), [HALF, HALF])
        self.assertEqual(row_chances(data, [], [0, 1], mix), [HALF, QUARTER, ZERO, QUARTER])
        self.assertEqual(row_chances(data, [(0, 0)], [1], mix), [(5, 8), (3, 8)])
        self.assertEqual(row_chances(data, [(0, 1)], [1], mix), [(3, 4), QUARTER])
        self.assertEqual(row_chances(data, [(0, 1)], [0, 1], mix), [ZERO, ZERO, (3, 4), QUARTER])
        self.assertEqual(row_chances(data, [(1, 1)], [0, 1], mix), [ZERO, (3, 4), ZERO, QUARTER])

    def test_ways_that_sentences_leave(self):
        data = pair(sentences=[("rises", 1, 0)])
        mix = [ZERO, HALF, ZERO, ZERO, THIRD, (1, 6)]
        self.assertEqual(row_chances(data, [(0, 0)], [1], mix), [(5, 6), (1, 6)])
        self.assertEqual(row_chances(data, [(0, 1)], [1], mix), [ZERO, ONE])

    def test_data_without_ways(self):
        data = pair(sentences=NOBODY)
        self.assertEqual(row_chances(data, [], [0, 1], []), [ZERO] * 4)
        self.assertEqual(value_in(data, [(HALF, [])], []), ZERO)

    def test_against_fractions(self):
        for house in sample_houses():
            data = Data(house, [], [])
            mix = random_mix(len(data.ways), 5)
            chosen = settings(house)
            for setting in chosen[::1 + len(chosen) // 3]:
                for seen in ([0], [len(house.names) - 1], list(range(len(house.names)))):
                    expected = [told(chance) for chance in exact_chances(data, setting, seen, mix)]
                    self.assertEqual(row_chances(data, setting, seen, mix), expected)


class ValueTest(unittest.TestCase):
    def test_the_pair(self):
        data = pair()
        mix = [HALF, ZERO, QUARTER, ZERO, ZERO, (1, 8), ZERO, (1, 8)]
        for text, value in [
                ("", ONE), ("x yes", QUARTER), ("y yes", HALF), ("y yes if x no", (3, 8)), ("x yes and y yes", QUARTER),
                ("y yes if x yes and y no if x no", (1, 8)), ("x no and x yes", ZERO)]:
            event = parse_event(data.house, text)
            self.assertEqual(value_in(data, [(ONE, event)], mix), value)
            self.assertEqual(value_in(data, [((-2, 1), event)], mix), told(-2 * Fraction(*value)))
        self.assertEqual(value_in(data, [], mix), ZERO)
        question = [((2, 1), parse_event(data.house, "x yes")), ((-1, 1), parse_event(data.house, "y yes"))]
        self.assertEqual(value_in(data, question, mix), ZERO)

    def test_against_fractions(self):
        for house in sample_houses():
            data = Data(house, [], [])
            mix = random_mix(len(data.ways), 3)
            last = len(house.names) - 1
            event = [(last, 1, [(0, 1)]), (0, 0, [])]
            total = sum([Fraction(*chance) for way, chance in zip(data.ways, mix) if all(
                world(house, way, setting)[variable] == word for variable, word, setting in event)], Fraction(0))
            expected = told(total * Fraction(-3, 7) + Fraction(1, 2))
            self.assertEqual(value_in(data, [((-3, 7), event), (HALF, [])], mix), expected)


class AgreesTest(unittest.TestCase):
    def test_no_table(self):
        data = pair()
        for at in range(8):
            self.assertIs(agrees(data, pure_mix(data, at)), True)
        self.assertIs(agrees(data, [(1, 9)] * 8), False)
        self.assertIs(agrees(data, [(1, 8)] * 7), False)

    def test_within_on_and_outside_a_bound(self):
        mix = [HALF, ZERO, QUARTER, ZERO, ZERO, (1, 8), ZERO, (1, 8)]
        chance = Fraction(3, 8)  # of y yes if x no
        near, far = told(chance - TINY), told(chance + TINY)
        exact = told(chance)
        for low, high, expected in [
                (ZERO, ONE, True), (near, far, True), (exact, exact, True), (exact, far, True), (near, exact, True),
                (ZERO, near, False), (far, ONE, False), (far, far, False), (near, near, False), (ZERO, ZERO, False)]:
            for bounds in ([FREE, (low, high)], [(told(1 - Fraction(*high)), told(1 - Fraction(*low))), FREE]):
                self.assertIs(agrees(pair([([(0, 0)], [1], bounds)]), mix), expected, (low, high))

    def test_all_tables_count(self):
        mix = [HALF, ZERO, QUARTER, ZERO, ZERO, (1, 8), ZERO, (1, 8)]
        good = ([], [0, 1], [(HALF, HALF), (QUARTER, QUARTER), (ZERO, ZERO), (QUARTER, QUARTER)])
        bad = ([], [1], [(HALF, HALF), (ZERO, told(Fraction(1, 2) - TINY))])
        self.assertIs(agrees(pair([good]), mix), True)
        self.assertIs(agrees(pair([good, good]), mix), True)
        for tables in ([bad], [good, bad], [bad, good], [good, good, bad, good]):
            self.assertIs(agrees(pair(tables), mix), False)

    def test_a_list_that_is_no_mix(self):
        data = pair([([], [0], [FREE, FREE])])
        for mix in ([], [ZERO] * 8, [HALF] * 8, [(-1, 1), (2, 1)] + [ZERO] * 6, pure_mix(data, 0)[1:]):
            self.assertIs(agrees(data, mix), False)

    def test_ways_that_sentences_leave(self):
        tables = [([(0, 0)], [1], [((5, 6), (5, 6)), ((1, 6), (1, 6))])]
        data = pair(tables, [("rises", 1, 0)])
        self.assertIs(agrees(data, [ZERO, HALF, ZERO, ZERO, THIRD, (1, 6)]), True)
        self.assertIs(agrees(data, [ZERO, HALF, ZERO, ZERO, (1, 6), THIRD]), False)

    def test_against_fractions(self):
        numbers = random.Random(11)
        said = []
        for house in sample_houses()[:10]:
            free = Data(house, [], [])
            for seed in range(6):
                mix = random_mix(len(free.ways), seed)
                tables = [self.random_table(free, mix, numbers) for _ in range(3)]
                data = Data(house, [], tables)
                expected = all(
                    Fraction(*low) <= chance <= Fraction(*high) for setting, seen, bounds in tables
                    for chance, (low, high) in zip(exact_chances(data, setting, seen, mix), bounds))
                self.assertIs(agrees(data, mix), expected)
                said.append(expected)
        self.assertEqual(sorted(set(said)), [False, True])

    def random_table(self, data, mix, numbers):
        setting = numbers.choice(settings(data.house))
        seen = sorted(numbers.sample(range(len(data.house.names)), numbers.randint(1, len(data.house.names))))
        bounds = []
        for chance in exact_chances(data, setting, seen, mix):
            low = max(Fraction(0), chance - numbers.choice([0, 0, Fraction(1, 3), TINY]))
            high = min(Fraction(1), chance + numbers.choice([0, 0, Fraction(1, 3), TINY]))
            if numbers.random() < 0.05:
                high = low = min(Fraction(1), high + TINY)
            bounds.append((told(low), told(high)))
        return (setting, seen, bounds)


class CopyTest(unittest.TestCase):
    def test_arguments_are_not_modified(self):
        data = Data(TRIO, [("rises", 2, 1)], [([(0, 1)], [1, 2], [FREE] * 4)])
        mix, setting, seen = even_mix(data), [(0, 2)], [1, 2]
        question = [(HALF, parse_event(TRIO, "z yes if x low y yes and x mid"))]
        passed = copy.deepcopy((mix, setting, seen, question, data.ways, data.tables, data.sentences))
        is_mix(data, mix)
        agrees(data, mix)
        row_chances(data, setting, seen, mix)
        value_in(data, question, mix)
        self.assertEqual((mix, setting, seen, question, data.ways, data.tables, data.sentences), passed)

    def test_chances_are_new(self):
        data = pair()
        mix = pure_mix(data, 0)
        chances = row_chances(data, [], [0], mix)
        chances.append(ONE)
        chances[0] = ZERO
        self.assertEqual(row_chances(data, [], [0], mix), [ONE, ZERO])


class InterfaceTest(unittest.TestCase):
    def test_names_and_arguments(self):
        arguments = {
            "is_mix": ["data", "mix"], "row_chances": ["data", "setting", "seen", "mix"], "agrees": ["data", "mix"],
            "value_in": ["data", "question", "mix"]}
        for name, parameters in arguments.items():
            function = getattr(module, name)
            self.assertEqual(list(inspect.signature(function).parameters), parameters)
            self.assertEqual(function.__module__, "otherhow.mixes")


if __name__ == "__main__":
    unittest.main()
