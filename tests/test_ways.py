import copy
import inspect
import unittest

from otherhow import ways as module
from otherhow.houses import parse_house, way_count
from otherhow.ways import all_ways, outcome, way_at
from tests.support import PAIR, has_no_list_twice, house_of, sample_houses, settings, share_lists, ways, world


class WaysTest(unittest.TestCase):
    def test_the_example(self):
        house = parse_house(PAIR)
        self.assertEqual(all_ways(house), [
            [[0], [0, 0]], [[0], [0, 1]], [[0], [1, 0]], [[0], [1, 1]],
            [[1], [0, 0]], [[1], [0, 1]], [[1], [1, 0]], [[1], [1, 1]]])

    def test_all_ways_in_order(self):
        for house in sample_houses():
            found = all_ways(house)
            self.assertEqual(len(found), way_count(house))
            self.assertEqual(found, ways(house))
            self.assertEqual(found, sorted(found))

    def test_way_at(self):
        for house in sample_houses():
            expected = ways(house)
            self.assertEqual([way_at(house, at) for at in range(len(expected))], expected)

    def test_first_and_last(self):
        house = house_of(("x", "low mid high", ""), ("y", "no yes", ""), ("z", "a b", "x y"))
        self.assertEqual(way_at(house, 0), [[0], [0], [0, 0, 0, 0, 0, 0]])
        self.assertEqual(way_at(house, 1), [[0], [0], [0, 0, 0, 0, 0, 1]])
        self.assertEqual(way_at(house, 63), [[0], [0], [1, 1, 1, 1, 1, 1]])
        self.assertEqual(way_at(house, 64), [[0], [1], [0, 0, 0, 0, 0, 0]])
        self.assertEqual(way_at(house, 383), [[2], [1], [1, 1, 1, 1, 1, 1]])

    def test_a_house_of_one_variable(self):
        house = house_of(("x", "low mid high", ""))
        self.assertEqual(all_ways(house), [[[0]], [[1]], [[2]]])

    def test_a_house_of_very_many_ways(self):
        house = house_of(
            ("a", "p q r", ""), ("b", "p q r", "a"), ("c", "p q r", "a b"), ("d", "p q r", "a b c"),
            ("e", "p q r", "a b c d"))
        self.assertEqual(way_at(house, 3 ** 121 - 1), [[2], [2] * 3, [2] * 9, [2] * 27, [2] * 81])
        self.assertEqual(way_at(house, 3 ** 120), [[1], [0] * 3, [0] * 9, [0] * 27, [0] * 81])
        self.assertEqual(way_at(house, 5), [[0], [0] * 3, [0] * 9, [0] * 27, [0] * 79 + [1, 2]])


class OutcomeTest(unittest.TestCase):
    def test_the_pair(self):
        house = parse_house(PAIR)
        way = [[1], [1, 0]]
        self.assertEqual(outcome(house, way, []), [1, 0])
        self.assertEqual(outcome(house, way, [(0, 0)]), [0, 1])
        self.assertEqual(outcome(house, way, [(0, 1)]), [1, 0])
        self.assertEqual(outcome(house, way, [(1, 1)]), [1, 1])
        self.assertEqual(outcome(house, way, [(0, 0), (1, 0)]), [0, 0])

    def test_heard_rows_have_the_first_word_going_slowest(self):
        house = house_of(("x", "low mid high", ""), ("y", "no yes", ""), ("z", "a b", "x y"))
        way = [[2], [0], [0, 1, 1, 0, 0, 1]]
        self.assertEqual(outcome(house, way, []), [2, 0, 0])
        self.assertEqual(outcome(house, way, [(1, 1)]), [2, 1, 1])
        self.assertEqual(outcome(house, way, [(0, 0)]), [0, 0, 0])
        self.assertEqual(outcome(house, way, [(0, 0), (1, 1)]), [0, 1, 1])
        self.assertEqual(outcome(house, way, [(0, 1)]), [1, 0, 1])
        self.assertEqual(outcome(house, way, [(0, 1), (1, 1)]), [1, 1, 0])
        self.assertEqual(outcome(house, way, [(2, 1)]), [2, 0, 1])

    def test_what_is_heard_is_what_is_said_there(self):
        house = house_of(("x", "no yes", ""), ("y", "no yes", "x"), ("z", "no yes", "y"))
        way = [[0], [1, 0], [0, 1]]
        self.assertEqual(outcome(house, way, []), [0, 1, 1])
        self.assertEqual(outcome(house, way, [(0, 1)]), [1, 0, 0])
        self.assertEqual(outcome(house, way, [(1, 0)]), [0, 0, 0])
        self.assertEqual(outcome(house, way, [(0, 1), (1, 1)]), [1, 1, 1])

    def test_only_some_earlier_ones_are_heard(self):
        house = house_of(("x", "a b c", ""), ("y", "a b c", ""), ("z", "p q", "y"))
        way = [[2], [1], [0, 1, 0]]
        self.assertEqual(outcome(house, way, []), [2, 1, 1])
        self.assertEqual(outcome(house, way, [(0, 1)]), [1, 1, 1])
        self.assertEqual(outcome(house, way, [(1, 2)]), [2, 2, 0])

    def test_all_settings(self):
        for house in sample_houses():
            found = ways(house)
            for way in found[::1 + len(found) // 7] + found[-1:]:
                for setting in settings(house)[::1 + len(settings(house)) // 20]:
                    self.assertEqual(outcome(house, way, setting), world(house, way, setting))

    def test_all_ways_and_settings_of_small_houses(self):
        for house in sample_houses()[:5]:
            for way in ways(house):
                for setting in settings(house):
                    self.assertEqual(outcome(house, way, setting), world(house, way, setting))

    def test_all_that_are_set(self):
        for house in sample_houses():
            last = [(variable, len(said) - 1) for variable, said in enumerate(house.words)]
            self.assertEqual(outcome(house, ways(house)[0], last), [word for _, word in last])


class CopyTest(unittest.TestCase):
    def test_arguments_are_not_modified(self):
        for house in sample_houses():
            way, setting = ways(house)[-1], settings(house)[-1]
            passed = [copy.deepcopy(value) for value in (house.names, house.words, house.heard, way, setting)]
            way_at(house, 0)
            all_ways(house)
            outcome(house, way, setting)
            self.assertEqual([house.names, house.words, house.heard, way, setting], passed)

    def test_lists_are_new(self):
        for house in sample_houses():
            found = all_ways(house)
            self.assertTrue(has_no_list_twice(found))
            self.assertFalse(share_lists(found[:20], all_ways(house)[:20]))
            self.assertTrue(has_no_list_twice([way_at(house, 1), way_at(house, 1)]))
            self.assertFalse(share_lists(way_at(house, 0), [house.words, house.heard]))

    def test_changes_change_nothing_else(self):
        house = parse_house(PAIR)
        found = all_ways(house)
        found[0][1][0] = 1
        found[0].append([5])
        found.pop()
        self.assertEqual(all_ways(house), ways(house))
        way = way_at(house, 3)
        way[0].append(4)
        self.assertEqual(way_at(house, 3), [[0], [1, 1]])

    def test_an_outcome_is_new(self):
        house = parse_house(PAIR)
        way = [[1], [0, 1]]
        said = outcome(house, way, [])
        said[0] = 7
        said.append(9)
        self.assertEqual(outcome(house, way, []), [1, 1])
        self.assertEqual(way, [[1], [0, 1]])


class InterfaceTest(unittest.TestCase):
    def test_names_and_arguments(self):
        arguments = {"way_at": ["house", "at"], "all_ways": ["house"], "outcome": ["house", "way", "setting"]}
        for name, parameters in arguments.items():
            function = getattr(module, name)
            self.assertEqual(list(inspect.signature(function).parameters), parameters)
            self.assertEqual(function.__module__, "otherhow.ways")


if __name__ == "__main__":
    unittest.main()
