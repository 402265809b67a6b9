import copy
import inspect
import itertools
import random
import unittest
from fractions import Fraction

from otherhow import conflicts as module
from otherhow.conflicts import conflicts
from otherhow.ends import possible
from otherhow.errors import BadText, NotAllowed, UnknownName
from otherhow.houses import parse_house
from otherhow.tables import Data
from tests.support import (
    PAIR, has_no_list_twice, random_experiment, random_mix, random_sentences, sample_houses, share_lists, table_near)

ZERO, QUARTER, HALF, MOST, ONE = (0, 1), (1, 4), (1, 2), (3, 4), (1, 1)
FREE = (ZERO, ONE)
NOBODY = [("never", 1, 0, 0, 1), ("never", 1, 1, 0, 1)]
WRONG = ([], [0], [(ONE, ONE), (ONE, ONE)])
X_HALF = ([], [0], [(HALF, HALF), (HALF, HALF)])
X_QUARTER = ([], [0], [(MOST, MOST), (QUARTER, QUARTER)])
X_MOST = ([], [0], [FREE, (HALF, ONE)])
ALL_NO = ([], [0, 1], [(ONE, ONE), FREE, FREE, FREE])
Y_IF_NO = ([(0, 0)], [1], [FREE, (MOST, ONE)])
Y_IF_YES = ([(0, 1)], [1], [FREE, (ZERO, HALF)])


def pair(tables, sentences=()):
    return Data(parse_house(PAIR), list(sentences), list(tables))


def by_definition(data):
    """The refuted sets of tables of which no proper subset is refuted, in order."""
    many = len(data.tables)
    refuted = [
        list(chosen) for length in range(many + 1) for chosen in itertools.combinations(range(many), length)
        if possible(Data(data.house, data.sentences, [data.tables[at] for at in chosen]))[0] == "none"]
    return [chosen for chosen in refuted if not any(set(other) < set(chosen) for other in refuted)]


class ConflictsTest(unittest.TestCase):
    def found(self, data):
        passed = copy.deepcopy((data.sentences, data.tables, data.ways))
        sets = conflicts(data)
        self.assertEqual((data.sentences, data.tables, data.ways), passed)
        self.assertTrue(type(sets) is list and all(type(one) is list for one in sets) and has_no_list_twice(sets))
        again = conflicts(data)
        self.assertFalse(share_lists(sets, again))
        for one in again:
            one.append(9)
        again.append([])
        self.assertEqual(conflicts(data), sets)
        return sets

    def test_no_tables(self):
        self.assertEqual(self.found(pair([])), [])
        self.assertEqual(self.found(pair([], [("rises", 1, 0)])), [])

    def test_tables_that_agree_together(self):
        self.assertEqual(self.found(pair([X_HALF])), [])
        self.assertEqual(self.found(pair([X_HALF, X_MOST, Y_IF_NO, Y_IF_YES, X_HALF])), [])

    def test_a_table_refuted_alone(self):
        self.assertEqual(self.found(pair([WRONG])), [[0]])
        self.assertEqual(self.found(pair([X_HALF, WRONG, X_MOST])), [[1]])
        self.assertEqual(self.found(pair([WRONG, X_HALF, X_QUARTER, WRONG])), [[0], [3], [1, 2]])

    def test_several_least_sets_in_order(self):
        self.assertEqual(self.found(pair([X_HALF, X_QUARTER])), [[0, 1]])
        self.assertEqual(
            self.found(pair([X_HALF, X_QUARTER, X_MOST, ALL_NO])), [[0, 1], [0, 3], [1, 2], [1, 3], [2, 3]])
        self.assertEqual(self.found(pair([ALL_NO, X_HALF, WRONG, X_QUARTER])), [[2], [0, 1], [0, 3], [1, 3]])

    def test_three_together(self):
        house = sample_houses()[1]
        shares = [([], [0], [FREE] * at + [((2, 5), ONE)] + [FREE] * (2 - at)) for at in range(3)]
        self.assertEqual(self.found(Data(house, [], shares)), [[0, 1, 2]])
        self.assertEqual(self.found(Data(house, [], shares + shares[1:2])), [[0, 1, 2], [0, 2, 3]])
        full = ([], [0], [(ONE, ONE), FREE, FREE])
        self.assertEqual(self.found(Data(house, [], shares + [full])), [[1, 3], [2, 3], [0, 1, 2]])

    def test_sentences_hold(self):
        self.assertEqual(self.found(pair([Y_IF_NO, Y_IF_YES])), [])
        self.assertEqual(self.found(pair([Y_IF_NO, Y_IF_YES], [("rises", 1, 0)])), [[0, 1]])
        self.assertEqual(self.found(pair([Y_IF_NO, Y_IF_YES], [("never", 1, 1, 0, 0)])), [[0]])
        self.assertEqual(self.found(pair([Y_IF_NO, Y_IF_YES], [("never", 1, 0, 0, 1), ("falls", 1, 0)])), [[1]])

    def test_data_without_ways(self):
        for tables in ([], [X_HALF], [WRONG, X_HALF], [X_HALF, X_QUARTER, X_MOST, WRONG, ALL_NO]):
            self.assertEqual(self.found(pair(tables, NOBODY)), [[]])

    def test_five_tables(self):
        tables = [X_HALF, X_QUARTER, X_MOST, ALL_NO, WRONG]
        self.assertEqual(self.found(pair(tables)), [[4], [0, 1], [0, 3], [1, 2], [1, 3], [2, 3]])
        self.assertEqual(self.found(pair([X_MOST] * 5)), [])
        self.assertEqual(self.found(pair([WRONG] * 5)), [[0], [1], [2], [3], [4]])

    def test_six_tables(self):
        for tables, sentences in [([X_MOST] * 6, []), ([WRONG] * 6, []), ([X_MOST] * 8, []), ([X_MOST] * 6, NOBODY)]:
            with self.assertRaises(NotAllowed) as caught:
                conflicts(pair(tables, sentences))
            self.assertNotIsInstance(caught.exception, (BadText, UnknownName))

    def test_against_the_definition(self):
        numbers = random.Random(1)
        lengths = []
        for house in sample_houses()[1:12]:
            for _ in range(3):
                free = Data(house, random_sentences(house, numbers, 1), [])
                mixes = [random_mix(len(free.ways), numbers) for _ in range(2)]
                tables = [
                    table_near(
                        free, numbers.choice(mixes), random_experiment(house, numbers), [0, Fraction(1, 4)], numbers)
                    for _ in range(numbers.randint(2, 5))]
                data = Data(house, free.sentences, tables)
                sets = self.found(data)
                self.assertEqual(sets, by_definition(data))
                lengths.append(len(sets))
        self.assertEqual(min(lengths), 0)
        self.assertGreater(max(lengths), 1)


class InterfaceTest(unittest.TestCase):
    def test_names_and_arguments(self):
        self.assertEqual(list(inspect.signature(conflicts).parameters), ["data"])
        self.assertEqual(module.conflicts.__module__, "otherhow.conflicts")


if __name__ == "__main__":
    unittest.main()
