import inspect
import itertools
import unittest

from otherhow import rows as module
from otherhow.rows import place, row_at, size

BOUNDS = [
    [], [1], [2], [5], [1, 1], [2, 3], [3, 2], [1, 4], [4, 1], [2, 1, 3], [3, 3, 3], [2, 2, 2, 2, 2], [2, 3, 4, 5]]


def all_rows(bounds):
    """The rows in order: product lets the last number go fastest."""
    return [list(row) for row in itertools.product(*[range(bound) for bound in bounds])]


class RowsTest(unittest.TestCase):
    def test_below_no_bounds_there_is_one_row(self):
        self.assertEqual(size([]), 1)
        self.assertEqual(place([], []), 0)
        self.assertEqual(row_at([], 0), [])

    def test_a_bound_of_one(self):
        self.assertEqual(size([1]), 1)
        self.assertEqual(place([1], [0]), 0)
        self.assertEqual(row_at([1], 0), [0])
        self.assertEqual(size([1, 3, 1]), 3)
        self.assertEqual(row_at([1, 3, 1], 2), [0, 2, 0])
        self.assertEqual(place([1, 3, 1], [0, 2, 0]), 2)

    def test_size_of_several_bounds(self):
        self.assertEqual(size([4]), 4)
        self.assertEqual(size([2, 3]), 6)
        self.assertEqual(size([3, 2, 3]), 18)

    def test_the_first_number_goes_slowest(self):
        rows = [row_at([2, 3], at) for at in range(6)]
        self.assertEqual(rows, [[0, 0], [0, 1], [0, 2], [1, 0], [1, 1], [1, 2]])
        self.assertEqual(place([2, 3], [1, 0]), 3)
        self.assertEqual(place([2, 3], [0, 1]), 1)

    def test_all_rows_in_order(self):
        for bounds in BOUNDS:
            rows = all_rows(bounds)
            self.assertEqual(size(bounds), len(rows))
            self.assertEqual([row_at(bounds, at) for at in range(len(rows))], rows)
            self.assertEqual([place(bounds, row) for row in rows], list(range(len(rows))))

    def test_place_and_row_at_are_inverses(self):
        for bounds in BOUNDS:
            for at in range(size(bounds)):
                self.assertEqual(place(bounds, row_at(bounds, at)), at)
            for row in all_rows(bounds):
                self.assertEqual(row_at(bounds, place(bounds, row)), row)

    def test_kinds(self):
        self.assertIs(type(size([2, 3])), int)
        self.assertIs(type(place([2, 3], [1, 2])), int)
        row = row_at([2, 3], 5)
        self.assertIs(type(row), list)
        self.assertEqual([type(number) for number in row], [int, int])

    def test_large_bounds(self):
        bounds = [10 ** 30, 10 ** 30 + 1, 7]
        last = [bound - 1 for bound in bounds]
        self.assertEqual(size(bounds), 7 * 10 ** 30 * (10 ** 30 + 1))
        self.assertEqual(place(bounds, last), size(bounds) - 1)
        self.assertEqual(row_at(bounds, size(bounds) - 1), last)

    def test_lists_that_are_passed_are_not_modified(self):
        bounds, row = [2, 3, 4], [1, 2, 3]
        size(bounds)
        place(bounds, row)
        row_at(bounds, 23)
        self.assertEqual(bounds, [2, 3, 4])
        self.assertEqual(row, [1, 2, 3])

    def test_a_returned_list_is_new(self):
        for bounds in ([], [1], [2, 3]):
            passed = list(bounds)
            first = row_at(bounds, 0)
            first.append(9)
            self.assertEqual(bounds, passed)
            self.assertEqual(row_at(bounds, 0), [0] * len(bounds))
            self.assertIsNot(row_at(bounds, 0), row_at(bounds, 0))


class InterfaceTest(unittest.TestCase):
    def test_names_and_arguments(self):
        arguments = {"size": ["bounds"], "place": ["bounds", "row"], "row_at": ["bounds", "at"]}
        for name, parameters in arguments.items():
            function = getattr(module, name)
            self.assertEqual(list(inspect.signature(function).parameters), parameters)
            self.assertEqual(function.__module__, "otherhow.rows")


if __name__ == "__main__":
    unittest.main()
