import copy
import inspect
import unittest

from otherhow import tables as module
from otherhow.houses import parse_house
from otherhow.sentences import allows, parse_sentence
from otherhow.tables import Data, is_table, row_bounds, row_of
from tests.support import PAIR, has_no_list_twice, house_of, row_number, sample_houses, settings, share_lists, ways

TRIO = house_of(("x", "low mid high", ""), ("y", "no yes", "x"), ("z", "no yes", "x y"))
SMALL = house_of(("x", "no yes", ""), ("y", "low mid high", ""), ("z", "a b", "x y"))
ZERO, HALF, ONE = (0, 1), (1, 2), (1, 1)
FREE = (ZERO, ONE)


def all_seen(house):
    many = len(house.names)
    return [[k for k in range(many) if code >> k & 1] for code in range(1, 2 ** many)]


class RowTest(unittest.TestCase):
    def test_row_bounds(self):
        for seen, bounds in [([0], [3]), ([1], [2]), ([0, 1], [3, 2]), ([0, 2], [3, 2]), ([0, 1, 2], [3, 2, 2])]:
            self.assertEqual(row_bounds(TRIO, seen), bounds)
        for house in sample_houses():
            for seen in all_seen(house):
                self.assertEqual(row_bounds(house, seen), [len(house.words[variable]) for variable in seen])

    def test_one_that_is_seen(self):
        house = parse_house(PAIR)
        way = [[1], [1, 0]]
        self.assertEqual(row_of(house, [], [0], way), 1)
        self.assertEqual(row_of(house, [], [1], way), 0)
        self.assertEqual(row_of(house, [(0, 0)], [1], way), 1)
        self.assertEqual(row_of(house, [(0, 1)], [1], way), 0)

    def test_several_that_are_seen(self):
        way = [[1], [1], [0, 1, 0, 1, 0, 1]]
        self.assertEqual(row_of(SMALL, [], [0, 1], way), 4)
        self.assertEqual(row_of(SMALL, [], [0, 2], way), 2)
        self.assertEqual(row_of(SMALL, [], [1, 2], way), 2)
        self.assertEqual(row_of(SMALL, [], [0, 1, 2], way), 8)
        self.assertEqual(row_of(SMALL, [(1, 2)], [0, 2], way), 3)

    def test_what_is_set_may_be_seen(self):
        house = parse_house(PAIR)
        way = [[1], [1, 0]]
        self.assertEqual(row_of(house, [(0, 0)], [0], way), 0)
        self.assertEqual(row_of(house, [(0, 0)], [0, 1], way), 1)
        self.assertEqual(row_of(house, [(1, 1)], [0, 1], way), 3)
        self.assertEqual(row_of(house, [(0, 0), (1, 0)], [0, 1], way), 0)

    def test_all_experiments(self):
        for house in sample_houses():
            found, chosen = ways(house), settings(house)
            for way in found[::1 + len(found) // 4]:
                for setting in chosen[::1 + len(chosen) // 8]:
                    for seen in all_seen(house):
                        expected = row_number(house, setting, seen, way)
                        self.assertEqual(row_of(house, setting, seen, way), expected)

    def test_arguments_are_not_modified(self):
        setting, seen, way = [(0, 2)], [1, 2], ways(TRIO)[99]
        passed = copy.deepcopy((setting, seen, way, TRIO.names, TRIO.words, TRIO.heard))
        row_of(TRIO, setting, seen, way)
        row_bounds(TRIO, seen).append(5)
        self.assertEqual((setting, seen, way, TRIO.names, TRIO.words, TRIO.heard), passed)
        self.assertEqual(row_bounds(TRIO, seen), [2, 2])


class IsTableTest(unittest.TestCase):
    def of(self, bounds, setting=(), seen=(1,)):
        return is_table(parse_house(PAIR), (list(setting), list(seen), bounds))

    def test_tables(self):
        tiny = (1, 10 ** 30)
        for bounds in [
                [FREE, FREE], [(ZERO, ZERO), (ONE, ONE)], [(HALF, HALF), (HALF, HALF)], [((1, 4), HALF), FREE],
                [(ZERO, tiny), (tiny, tiny)], [(ONE, ONE), (ONE, ONE)], [(ZERO, ZERO), (ZERO, ZERO)]]:
            self.assertIs(self.of(bounds), True, bounds)

    def test_too_few_and_too_many(self):
        for bounds in [[], [FREE], [FREE] * 3, [FREE] * 4]:
            self.assertIs(self.of(bounds), False, bounds)
        for many in range(8):
            self.assertIs(self.of([FREE] * many, [(0, 1)], [0, 1]), many == 4)
            self.assertIs(is_table(TRIO, ([], [0, 2], [FREE] * many)), many == 6)
            self.assertIs(is_table(TRIO, ([(0, 1)], [0], [FREE] * many)), many == 3)

    def test_below_0_above_1_and_low_above_high(self):
        for wrong in [
                ((-1, 2), HALF), ((-1, 10 ** 30), ZERO), ((-1, 2), (-1, 3)), (HALF, (3, 2)),
                (ONE, (10 ** 30 + 1, 10 ** 30)), ((3, 2), (3, 2)), ((2, 1), (3, 1)), (HALF, (1, 3)), (ONE, ZERO),
                (ONE, (10 ** 30 - 1, 10 ** 30)), ((1, 10 ** 30), ZERO)]:
            self.assertIs(self.of([wrong, FREE]), False, wrong)
            self.assertIs(self.of([FREE, wrong]), False, wrong)
            self.assertIs(self.of([wrong, wrong]), False, wrong)

    def test_the_rows_need_no_chances_that_add_up(self):
        self.assertIs(self.of([(ONE, ONE), (ONE, ONE)]), True)

    def test_bounds_that_are_no_pairs_of_fractions(self):
        for wrong in [None, 0, ZERO, (), (ZERO,), (ZERO, ONE, ONE), [ZERO, ONE], (0, 1), (ZERO, 1), (0, ONE),
                      (ZERO, (2, 2)), ((0, 2), ONE), (ZERO, (1, 0)), (None, ONE), (ZERO, None)]:
            self.assertIs(self.of([wrong, FREE]), False, wrong)
            self.assertIs(self.of([FREE, wrong]), False, wrong)

    def test_bounds_that_are_no_list(self):
        for bounds in [None, 2, "ab", (FREE, FREE), {0: FREE, 1: FREE}]:
            self.assertIs(self.of(bounds), False, bounds)

    def test_arguments_are_not_modified(self):
        table = ([(0, 1)], [1], [FREE, (HALF, HALF)])
        passed = copy.deepcopy(table)
        is_table(parse_house(PAIR), table)
        self.assertEqual(table, passed)


class DataTest(unittest.TestCase):
    def test_attributes(self):
        house = parse_house(PAIR)
        table = ([(0, 1)], [1], [FREE, FREE])
        data = Data(house, [("rises", 1, 0)], [table])
        self.assertIs(data.house, house)
        self.assertEqual(data.sentences, [("rises", 1, 0)])
        self.assertEqual(data.tables, [table])
        self.assertEqual(data.ways, [[[x], y] for x in (0, 1) for y in ([0, 0], [0, 1], [1, 1])])
        for value in (data.sentences, data.tables, data.ways):
            self.assertIs(type(value), list)
        self.assertIs(type(data.tables[0]), tuple)

    def test_no_sentence(self):
        for house in sample_houses():
            data = Data(house, [], [])
            self.assertEqual(data.ways, ways(house))
            self.assertEqual((data.sentences, data.tables), ([], []))

    def test_each_kind_of_sentence(self):
        house = parse_house(PAIR)
        for text, answers in [
                ("y ignores x", [[0, 0], [1, 1]]), ("y rises with x", [[0, 0], [0, 1], [1, 1]]),
                ("y falls with x", [[0, 0], [1, 0], [1, 1]]), ("y never no when x yes", [[0, 1], [1, 1]])]:
            data = Data(house, [parse_sentence(house, text)], [])
            self.assertEqual(data.ways, [[[x], y] for x in (0, 1) for y in answers])

    def test_several_sentences(self):
        sentences = [parse_sentence(TRIO, text) for text in ("z rises with y", "z ignores x", "y never no when x mid")]
        left = [way for way in ways(TRIO) if all(allows(TRIO, sentence, way) for sentence in sentences)]
        for order in (sentences, sentences[::-1], sentences + sentences):
            self.assertEqual(Data(TRIO, order, []).ways, left)
        self.assertEqual(len(left), 3 * 4 * 3)

    def test_sentences_that_leave_no_way(self):
        house = parse_house(PAIR)
        sentences = [("never", 1, 0, 0, 1), ("never", 1, 1, 0, 1)]
        data = Data(house, sentences, [([], [0], [FREE, FREE])])
        self.assertEqual(data.ways, [])
        self.assertEqual(data.sentences, sentences)
        self.assertEqual(len(data.tables), 1)

    def test_tables_leave_no_way_out(self):
        house = parse_house(PAIR)
        table = ([], [0, 1], [(ONE, ONE)] + [(ZERO, ZERO)] * 3)
        self.assertEqual(Data(house, [], [table, table]).ways, ways(house))

    def test_lists_are_copied(self):
        house = parse_house(PAIR)
        sentences = [("rises", 1, 0)]
        tables = [([(0, 1)], [1], [FREE, FREE]), ([], [0, 1], [FREE] * 4)]
        passed = copy.deepcopy((sentences, tables))
        data = Data(house, sentences, tables)
        self.assertEqual((sentences, tables), passed)
        self.assertFalse(share_lists([sentences, tables], [data.sentences, data.tables]))
        sentences.append(("falls", 1, 0))
        tables[0][0].append((1, 1))
        tables[0][1].append(0)
        tables[0][2].pop()
        tables.pop()
        self.assertEqual((data.sentences, data.tables), passed)
        self.assertEqual(len(data.ways), 6)

    def test_one_table_passed_twice_is_copied_twice(self):
        house = parse_house(PAIR)
        table = ([(0, 1)], [1], [FREE, FREE])
        data = Data(house, [], [table, table])
        self.assertTrue(has_no_list_twice(data.tables))
        self.assertTrue(has_no_list_twice(data.ways))
        self.assertFalse(share_lists(data.ways, Data(house, [], []).ways))
        again = Data(house, data.sentences, data.tables)
        self.assertFalse(share_lists([data.sentences, data.tables], [again.sentences, again.tables]))

    def test_the_house_is_not_modified(self):
        house = parse_house(PAIR)
        passed = copy.deepcopy((house.names, house.words, house.heard))
        data = Data(house, [("rises", 1, 0)], [])
        self.assertEqual((house.names, house.words, house.heard), passed)
        self.assertFalse(share_lists(data.ways, [house.words, house.heard]))


class InterfaceTest(unittest.TestCase):
    def test_names_and_arguments(self):
        arguments = {
            "row_bounds": ["house", "seen"], "row_of": ["house", "setting", "seen", "way"],
            "is_table": ["house", "table"], "Data": ["house", "sentences", "tables"]}
        for name, parameters in arguments.items():
            listed = getattr(module, name)
            self.assertEqual(list(inspect.signature(listed).parameters), parameters)
            self.assertEqual(listed.__module__, "otherhow.tables")
        self.assertIn("__init__", Data.__dict__)


if __name__ == "__main__":
    unittest.main()
