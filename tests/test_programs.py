import copy
import inspect
import itertools
import random
import signal
import unittest
from fractions import Fraction

from otherhow import programs as module
from otherhow.programs import solve
from tests.support import exact, has_no_list_twice, share_lists, told

ZERO, ONE = (0, 1), (1, 1)
KINDS = ("least", "equal", "most")


def whole(numbers):
    return [(number, 1) for number in numbers]


def program(costs, *lines):
    """A program of integers or Fractions."""
    return [told(Fraction(cost)) for cost in costs], [
        ([told(Fraction(entry)) for entry in entries], kind, told(Fraction(right))) for entries, kind, right in lines]


def keeps(total, kind, right):
    return {"least": total >= right, "equal": total == right, "most": total <= right}[kind]


def summed(one, other):
    return sum([a * b for a, b in zip(one, other) if a and b], Fraction(0))


class ProgramCase(unittest.TestCase):
    def solved(self, costs, lines, end=None):
        """Solve a program, check all that point 22 says of the answer, and return it."""
        passed = copy.deepcopy((costs, lines))
        answer = solve(costs, lines)
        self.assertEqual((costs, lines), passed)
        self.assertIs(type(answer), tuple)
        self.assertTrue(has_no_list_twice(answer))
        self.assertFalse(share_lists(answer, [costs, lines]))
        checks = {"end": self.check_end, "nothing": self.check_nothing, "falls": self.check_falls}
        exact_lines = [([exact(entry) for entry in line[0]], line[1], exact(line[2])) for line in lines]
        checks[answer[0]]([exact(cost) for cost in costs], exact_lines, *answer[1:])
        if end is not None:
            self.assertEqual(answer[0], end)
        return answer

    def numbers(self, listed, many):
        self.assertIs(type(listed), list)
        self.assertEqual(len(listed), many)
        return [exact(number) for number in listed]

    def check_fit(self, values, costs, lines):
        found = self.numbers(values, len(costs))
        self.assertTrue(all(value >= 0 for value in found))
        for entries, kind, right in lines:
            self.assertTrue(keeps(summed(entries, found), kind, right))
        return found

    def check_prices(self, prices, limits, lines):
        """The signs of the prices, and that at each column they add up to at most its limit."""
        found = self.numbers(prices, len(lines))
        totals = [Fraction(0)] * len(limits)
        for price, (entries, kind, _) in zip(found, lines):
            self.assertFalse(kind == "least" and price < 0)
            self.assertFalse(kind == "most" and price > 0)
            if price != 0:
                totals = [total + price * entry for total, entry in zip(totals, entries)]
        self.assertTrue(all(total <= limit for total, limit in zip(totals, limits)))
        return summed(found, [right for _, _, right in lines])

    def check_end(self, costs, lines, value, values, prices):
        self.assertEqual(summed(costs, self.check_fit(values, costs, lines)), exact(value))
        self.assertEqual(self.check_prices(prices, costs, lines), exact(value))

    def check_nothing(self, costs, lines, prices):
        self.assertGreater(self.check_prices(prices, [Fraction(0)] * len(costs), lines), 0)

    def check_falls(self, costs, lines, values, ray):
        self.check_fit(values, costs, lines)
        found = self.check_fit(ray, costs, [(entries, kind, 0) for entries, kind, _ in lines])
        self.assertLess(summed(costs, found), 0)


class SmallTest(ProgramCase):
    def test_neither_columns_nor_lines(self):
        self.assertEqual(self.solved([], []), ("end", ZERO, [], []))

    def test_no_lines(self):
        self.assertEqual(self.solved(whole([0, 3, 0]), []), ("end", ZERO, [ZERO] * 3, []))
        answer = self.solved(whole([2, 0, -1]), [], "falls")
        self.assertEqual(answer[2][:2], [ZERO, ZERO])
        self.solved([(-1, 10 ** 50)], [], "falls")

    def test_no_columns(self):
        for kind, right in itertools.product(KINDS, (-2, 0, 2)):
            end = "end" if keeps(0, kind, right) else "nothing"
            self.solved(*program([], ([], kind, right)), end)
            self.solved(*program([], ([], "most", 1), ([], kind, right), ([], "equal", 0)), end)

    def test_lines_of_zero_entries_alone(self):
        for kind, right in itertools.product(KINDS, (Fraction(-1, 3), 0, Fraction(1, 3))):
            end = "end" if keeps(0, kind, right) else "nothing"
            self.solved(*program([1, 0], ([0, 0], kind, right)), end)
            self.solved(*program([1, 0], ([1, 2], "least", 3), ([0, 0], kind, right)), end)
            self.solved(*program([-1, 0], ([0, 0], kind, right)), "falls" if end == "end" else "nothing")

    def test_one_column_and_one_line(self):
        """All signs; the values that fit are an interval that is found by trying its possible ends."""
        for cost, entry, kind, right in itertools.product((-2, 0, 3), (-2, 0, 1), KINDS, (-4, 0, 6)):
            ends = [Fraction(0)] + ([Fraction(right, entry)] if entry else [])
            fit = [value for value in ends if value >= 0 and keeps(entry * value, kind, right)]
            if not fit:
                self.solved(*program([cost], ([entry], kind, right)), "nothing")
            elif cost < 0 and keeps(entry * 10 ** 6, kind, right):
                self.solved(*program([cost], ([entry], kind, right)), "falls")
            else:
                answer = self.solved(*program([cost], ([entry], kind, right)), "end")
                self.assertEqual(answer[1], told(min([cost * value for value in fit])))

    def test_one_column_and_two_lines(self):
        seen = set()
        for kind, other, right, limit in itertools.product(KINDS, KINDS, (-1, 0, 2), (-1, 0, 2, 3)):
            for cost in (-1, 0, 1):
                costs, lines = program([cost], ([1], kind, right), ([1], other, limit))
                seen.add(self.solved(costs, lines)[0])
        self.assertEqual(seen, {"end", "nothing", "falls"})

    def test_known_values(self):
        for value, costs, lines in [
                (12, [2, 3], [([1, 1], "least", 5), ([1, 0], "most", 3)]),
                (-36, [-3, -5], [([1, 0], "most", 4), ([0, 2], "most", 12), ([3, 2], "most", 18)]),
                (Fraction(7, 2), [1, 1], [([1, 3], "least", 6), ([3, 1], "least", 8)]),
                (1, [1, 1, 1], [([1, 1, 1], "equal", 1)]),
                (-1, [1, -1], [([1, 1], "equal", 1)]),
                (0, [0, 0], [([1, -1], "equal", 5)]),
                (5, [1, 0], [([1, -1], "least", 5), ([1, 1], "equal", 5)]),
                (Fraction(-1, 2), [-1, -1], [([2, 3], "most", 1)])]:
            answer = self.solved(*program(costs, *lines), "end")
            self.assertEqual(answer[1], told(Fraction(value)))

    def test_nothing_fits(self):
        for lines in [
                [([1, 1], "most", -1)], [([1, 1], "least", 3), ([1, 1], "most", 2)],
                [([1, 0], "equal", 1), ([1, 0], "equal", 2)], [([-1, -2], "equal", 1)], [([-1, 0], "least", 1)],
                [([1, -1], "least", 1), ([-1, 1], "least", 0)],
                [([1, 2], "equal", 3), ([2, 4], "equal", 6), ([1, 2], "equal", Fraction(31, 10))]]:
            for costs in ([0, 0], [1, 1], [-1, 2], [-1, -1]):
                self.solved(*program(costs, *lines), "nothing")

    def test_costs_that_fall_without_end(self):
        for costs, lines in [
                ([-1, 0], [([1, -1], "most", 3)]), ([-1, 0], [([1, -1], "equal", -3)]),
                ([1, -2], [([1, -1], "equal", 0)]), ([0, -1], [([1, 0], "equal", 2)]),
                ([-1, 1], [([1, 1], "least", 2)]),
                ([-3, 2, 2], [([1, -1, 0], "most", 1), ([1, 0, -1], "least", -1), ([1, -1, 0], "equal", 1)])]:
            self.solved(*program(costs, *lines), "falls")


class RepeatedTest(ProgramCase):
    def test_lines_twice_and_opposite(self):
        numbers = random.Random(1)
        opposite = {"least": "most", "equal": "equal", "most": "least"}
        seen = set()
        for _ in range(150):
            many = numbers.randint(1, 4)
            costs = [numbers.randint(-1, 4) for _ in range(many)]
            lines = []
            for _ in range(numbers.randint(1, 3)):
                entries = [numbers.randint(-2, 3) for _ in range(many)]
                lines.append((entries, numbers.choice(KINDS), numbers.randint(-3, 4)))
            first = self.solved(*program(costs, *lines))
            entries, kind, right = numbers.choice(lines)
            lines.append((entries, kind, right))
            lines.append(([-entry for entry in entries], opposite[kind], -right))
            again = self.solved(*program(costs, *lines), first[0])
            if first[0] == "end":
                self.assertEqual(first[1], again[1])
            seen.add(first[0])
        self.assertEqual(seen, {"end", "nothing", "falls"})

    def test_a_line_and_its_opposite_of_the_same_kind(self):
        for kind, right in itertools.product(("least", "most"), (-2, 0, 2)):
            answer = self.solved(*program([1, 1], ([1, -1], kind, right), ([-1, 1], kind, -right)), "end")
            self.assertEqual(answer[1], (abs(right), 1))

    def test_equal_lines_that_depend_on_each_other(self):
        lines = [([1, 1, 0], "equal", 2), ([0, 1, 1], "equal", 3), ([1, 2, 1], "equal", 5), ([1, 0, -1], "equal", -1)]
        for costs in ([1, 1, 1], [0, 0, 0], [-1, 4, -1], [5, -9, 5]):
            self.solved(*program(costs, *lines), "end")
        self.solved(*program([1, 1, 1], *lines, ([1, 2, 1], "equal", 6)), "nothing")


class TiesTest(ProgramCase):
    """Programs in which a solver without a rule for ties comes round."""

    def setUp(self):
        signal.signal(signal.SIGALRM, self.too_long)
        signal.alarm(300)

    def tearDown(self):
        signal.alarm(0)

    def too_long(self, *_):
        raise AssertionError("solving does not end")

    def test_known_rounds(self):
        third, quarter, half = Fraction(1, 3), Fraction(1, 4), Fraction(1, 2)
        for end, costs, lines in [
                ("end", [-3 * quarter, 150, Fraction(-1, 50), 6], [
                    ([quarter, -60, Fraction(-1, 25), 9], "most", 0), ([half, -90, Fraction(-1, 50), 3], "most", 0),
                    ([0, 0, 1, 0], "most", 1)]),
                ("end", [-10, 57, 9, 24], [
                    ([half, -half * 11, -half * 5, 9], "most", 0), ([half, -half * 3, -half, 1], "most", 0),
                    ([1, 0, 0, 0], "most", 1)]),
                ("falls", [-2, -3, 1, 12], [
                    ([-2, -9, 1, 9], "most", 0), ([third, 1, -third, -2], "most", 0)]),
                ("falls", [-half * 4, -half * 9, half * 5, half * 13], [
                    ([Fraction(2, 5), Fraction(1, 5), Fraction(-7, 5), Fraction(-1, 5)], "most", 0),
                    ([Fraction(-39, 5), Fraction(-7, 5), Fraction(39, 5), Fraction(2, 5)], "most", 0)])]:
            self.solved(*program(costs, *lines), end)
            flipped = [([-entry for entry in entries], "least", -right) for entries, _, right in lines]
            self.solved(*program(costs, *flipped), end)
            spared = [
                (entries + [1 if at == k else 0 for k in range(len(lines))], "equal", right)
                for at, (entries, _, right) in enumerate(lines)]
            self.solved(*program(costs + [0] * len(lines), *spared), end)

    def test_right_sides_of_0_and_columns_that_are_multiples(self):
        numbers = random.Random(2)
        seen = set()
        for _ in range(300):
            base = [[numbers.choice([-1, 0, 0, 1]) for _ in range(4)] for _ in range(3)]
            columns = base + [[numbers.choice([1, 2, 3]) * entry for entry in numbers.choice(base)] for _ in range(5)]
            costs = [numbers.choice([-1, 1, 1]) for _ in columns]
            lines = [([column[at] for column in columns], numbers.choice(KINDS), 0) for at in range(4)]
            if numbers.random() < 0.7:
                lines.append(([1] * len(columns), numbers.choice(KINDS), 1))
            seen.add(self.solved(*program(costs, *lines))[0])
        self.assertEqual(seen, {"end", "nothing", "falls"})

    def test_equal_costs_and_equal_quotients(self):
        for many in (3, 5, 7):
            ring = [[1 if k in (at, (at + 1) % many) else 0 for k in range(many)] for at in range(many)]
            for kind, cost, value in [("least", 1, many), ("most", -1, -many), ("equal", 1, many)]:
                lines = [(entries, kind, 2) for entries in ring + ring]
                self.assertEqual(self.solved(*program([cost] * many, *lines), "end")[1], (value, 1))

    def test_assignments(self):
        numbers = random.Random(3)
        for many in (2, 3, 5):
            costs = [[numbers.randint(0, 4) for _ in range(many)] for _ in range(many)]
            lines = []
            for at in range(many):
                lines.append(([1 if k // many == at else 0 for k in range(many ** 2)], "equal", 1))
                lines.append(([1 if k % many == at else 0 for k in range(many ** 2)], "equal", 1))
            best = min([sum([costs[k][chosen] for k, chosen in enumerate(order)])
                        for order in itertools.permutations(range(many))])
            answer = self.solved(*program(sum(costs, []), *lines), "end")
            self.assertEqual(answer[1], (best, 1))


class LargeTest(ProgramCase):
    def test_many_small_programs(self):
        numbers = random.Random(4)
        seen = []
        for _ in range(800):
            many = numbers.randint(0, 5)
            costs = [Fraction(numbers.randint(-1, 4), numbers.randint(1, 3)) for _ in range(many)]
            lines = []
            for _ in range(numbers.randint(0, 5)):
                entries = [
                    Fraction(numbers.choice([0, 0, -3, -1, 1, 2, 5]), numbers.randint(1, 3)) for _ in range(many)]
                lines.append((entries, numbers.choice(KINDS), Fraction(numbers.randint(-3, 5), numbers.randint(1, 3))))
            seen.append(self.solved(*program(costs, *lines))[0])
        for end in ("end", "nothing", "falls"):
            self.assertGreater(seen.count(end), 100)

    def test_fractions_of_many_digits(self):
        numbers = random.Random(5)
        seen = set()
        for _ in range(12):
            size = 10 ** numbers.choice([20, 60, 200])
            draw = lambda low: Fraction(numbers.randint(low * size, size), numbers.randint(1, size))
            costs = [draw(0) for _ in range(5)]
            lines = [([draw(-1) for _ in range(5)], numbers.choice(KINDS), draw(-1)) for _ in range(3)]
            seen.add(self.solved(*program(costs, *lines))[0])
        self.assertEqual(seen, {"end", "nothing"})
        large = 10 ** 4000
        answer = self.solved([(1, large - 1)], [([(large, large + 1)], "least", (large - 1, large))], "end")
        self.assertEqual(answer[1], told(Fraction(large + 1, large ** 2)))

    def test_differences_that_no_rounding_shows(self):
        tiny = Fraction(1, 10 ** 60)
        for more, end in [(tiny, "nothing"), (Fraction(0), "end"), (-tiny, "end")]:
            self.solved(*program([1, 1], ([1, 1], "least", 1 + more), ([1, 1], "most", 1)), end)
        self.solved(*program([-tiny], ([-1], "most", 0)), "falls")
        answer = self.solved(*program([1, 1 - tiny], ([1, 1], "equal", 1)), "end")
        self.assertEqual(answer[1:3], (told(1 - tiny), [ZERO, ONE]))

    def test_dozens_of_columns_and_lines(self):
        numbers = random.Random(6)
        for many, lines_many in ((40, 30), (30, 45), (60, 24)):
            costs = [numbers.randint(1, 30) for _ in range(many)]
            hidden = [numbers.choice([0, 0, 1, 2, 5]) for _ in range(many)]
            lines = []
            for at in range(lines_many):
                entries = [numbers.choice([0, 0, 0, -2, 1, 3, 4]) for _ in range(many)]
                kind = KINDS[at % 3]
                total = sum([entry * value for entry, value in zip(entries, hidden)])
                lines.append((entries, kind, total + {"least": -at, "equal": 0, "most": at}[kind]))
            self.solved(*program(costs, *lines), "end")
            self.solved(*program([-cost for cost in costs], *lines, ([1] * many, "most", 500)), "end")
            apart = lines + [(lines[1][0], "least", lines[1][2] + 1)]
            self.solved(*program(costs, *apart), "nothing")
            wider = [(entries + [0], kind, right) for entries, kind, right in lines]
            self.solved(*program(costs + [-1], *wider), "falls")

    def test_as_many_columns_and_lines_as_callers_pass(self):
        many = 600
        lines = []
        for at in range(many):
            entries = [ZERO] * many
            entries[at] = entries[(at + 1) % many] = ONE
            lines.append((entries, "least", (at + 1, 1)))
        answer = self.solved([ONE] * many, lines, "end")
        self.assertEqual(answer[1], (sum(range(2, many + 1, 2)), 1))

    def test_a_second_call(self):
        costs, lines = program([2, 3, 0], ([1, 1, 1], "least", 5), ([1, 0, 1], "equal", 3), ([0, 1, 0], "most", 4))
        first = self.solved(costs, lines, "end")
        kept = copy.deepcopy(first)
        again = self.solved(costs, lines, "end")
        self.assertEqual(first, again)
        self.assertFalse(share_lists(first, again))
        again[2].append(ZERO)
        again[3][0] = ZERO
        self.assertEqual(first, kept)
        self.assertEqual(self.solved(costs, lines, "end"), kept)


class InterfaceTest(unittest.TestCase):
    def test_names_and_arguments(self):
        self.assertEqual(list(inspect.signature(solve).parameters), ["costs", "lines"])
        self.assertEqual(module.solve.__module__, "otherhow.programs")


if __name__ == "__main__":
    unittest.main()
