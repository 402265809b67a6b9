import inspect
import unittest
from fractions import Fraction
from math import gcd

from otherhow import ratio as module
from otherhow.ratio import ONE, ZERO, add, added, at_most, div, dot, is_fraction, less, mul, neg, ratio, sub

BIG = 10 ** 9999 + 7
HUGE = 7 * 10 ** 9999 + 9
SMALL = [(0, 1), (1, 1), (-1, 1), (1, 2), (-1, 2), (2, 3), (-2, 3), (3, 2), (5, 6), (-7, 4), (12, 1)]
LONG = [(BIG, 1), (-BIG, 1), (1, BIG), (-1, BIG), (10 ** 60 + 1, 10 ** 60), (-(10 ** 60), 10 ** 60 + 1)]
SAMPLES = SMALL + LONG
PARAMETERS = {
    "ratio": ["p", "q"], "add": ["a", "b"], "sub": ["a", "b"], "mul": ["a", "b"], "neg": ["a"],
    "div": ["a", "b"], "less": ["a", "b"], "at_most": ["a", "b"], "added": ["numbers"], "dot": ["a", "b"],
}


def exact(a):
    return Fraction(a[0], a[1])


def told(value):
    return (value.numerator, value.denominator)


class FractionCase(unittest.TestCase):
    def same(self, got, expected):
        """Numbers of many digits are not shown, as Python does not print them."""
        self.assertIs(type(got), tuple)
        self.assertEqual(len(got), 2)
        self.assertIs(type(got[0]), int)
        self.assertIs(type(got[1]), int)
        self.assertTrue(got[1] >= 1)
        self.assertEqual(gcd(got[0], got[1]), 1)
        self.assertTrue(got == expected)

    def for_all_pairs(self, function, oracle, second=SAMPLES):
        for a in SAMPLES:
            for b in second:
                self.same(function(a, b), told(oracle(exact(a), exact(b))))


class RatioTest(FractionCase):
    def test_lowest_terms(self):
        self.same(ratio(6, 4), (3, 2))
        self.same(ratio(-6, 4), (-3, 2))
        self.same(ratio(12, 4), (3, 1))
        self.same(ratio(5, 7), (5, 7))

    def test_negative_q(self):
        self.same(ratio(1, -2), (-1, 2))
        self.same(ratio(-1, -2), (1, 2))
        self.same(ratio(6, -4), (-3, 2))
        self.same(ratio(-6, -3), (2, 1))

    def test_zero(self):
        for q in (1, 5, -1, -5, HUGE, -HUGE):
            self.same(ratio(0, q), (0, 1))

    def test_equal_numbers_are_equal_tuples(self):
        for k in (1, 2, -3, 10 ** 40, -BIG):
            self.same(ratio(2 * k, 3 * k), (2, 3))
            self.same(ratio(-2 * k, 3 * k), (-2, 3))

    def test_many_digits(self):
        self.same(ratio(BIG * 6, BIG * 4), (3, 2))
        self.same(ratio(BIG, BIG), (1, 1))
        self.same(ratio(BIG, -BIG), (-1, 1))
        self.same(ratio(10 ** 9999 + 1, 10 ** 9999), (10 ** 9999 + 1, 10 ** 9999))

    def test_every_small_pair(self):
        for p in range(-12, 13):
            for q in list(range(-12, 0)) + list(range(1, 13)):
                self.same(ratio(p, q), told(Fraction(p, q)))


class ArithmeticTest(FractionCase):
    def test_add(self):
        self.same(add((1, 2), (1, 3)), (5, 6))
        self.same(add((1, 6), (1, 3)), (1, 2))
        self.same(add((1, 2), (1, 2)), (1, 1))
        self.same(add((1, 2), (-1, 3)), (1, 6))
        self.for_all_pairs(add, lambda a, b: a + b)

    def test_sub(self):
        self.same(sub((1, 2), (1, 3)), (1, 6))
        self.same(sub((1, 3), (1, 2)), (-1, 6))
        self.for_all_pairs(sub, lambda a, b: a - b)

    def test_mul(self):
        self.same(mul((2, 3), (3, 4)), (1, 2))
        self.same(mul((-2, 3), (-3, 2)), (1, 1))
        self.for_all_pairs(mul, lambda a, b: a * b)

    def test_div(self):
        self.same(div((2, 3), (4, 3)), (1, 2))
        self.same(div((1, 2), (-1, 3)), (-3, 2))
        self.same(div((0, 1), (-1, 3)), (0, 1))
        self.for_all_pairs(div, lambda a, b: a / b, [b for b in SAMPLES if b[0] != 0])

    def test_neg(self):
        self.same(neg((0, 1)), (0, 1))
        self.same(neg((2, 3)), (-2, 3))
        self.same(neg((-2, 3)), (2, 3))
        for a in SAMPLES:
            self.same(neg(a), told(-exact(a)))
            self.same(neg(neg(a)), a)

    def test_a_fraction_and_itself(self):
        for a in SAMPLES:
            self.same(sub(a, a), (0, 1))
            self.same(add(a, a), mul(a, (2, 1)))
            if a[0] != 0:
                self.same(div(a, a), (1, 1))

    def test_a_fraction_and_its_negative(self):
        for a in SAMPLES:
            self.same(add(a, neg(a)), (0, 1))
            self.same(sub(a, neg(a)), mul((2, 1), a))
            if a[0] != 0:
                self.same(div(a, neg(a)), (-1, 1))

    def test_numbers_of_ten_thousand_digits(self):
        one, other = (BIG, HUGE), (HUGE, BIG)
        self.assertEqual(gcd(BIG, HUGE), 1)
        self.same(mul(one, other), (1, 1))
        self.same(div(one, one), (1, 1))
        self.same(add(one, other), (BIG * BIG + HUGE * HUGE, BIG * HUGE))
        self.same(sub(one, other), (BIG * BIG - HUGE * HUGE, BIG * HUGE))
        self.assertIs(less(one, other), True)

    def test_nothing_is_rounded(self):
        tiny = (1, 10 ** 400)
        self.same(sub(add((1, 3), tiny), (1, 3)), tiny)
        self.assertIs(less((1, 3), add((1, 3), tiny)), True)
        self.assertIs(at_most(add((1, 3), tiny), (1, 3)), False)


class OrderTest(unittest.TestCase):
    def test_less(self):
        self.assertIs(less((1, 3), (1, 2)), True)
        self.assertIs(less((1, 2), (1, 3)), False)
        self.assertIs(less((-1, 2), (-1, 3)), True)
        self.assertIs(less((-1, 3), (-1, 2)), False)
        self.assertIs(less((-1, 2), (0, 1)), True)

    def test_at_most(self):
        self.assertIs(at_most((1, 3), (1, 2)), True)
        self.assertIs(at_most((1, 2), (1, 3)), False)
        self.assertIs(at_most((0, 1), (-1, 2)), False)

    def test_equal_numbers(self):
        for a in SAMPLES:
            self.assertIs(less(a, a), False)
            self.assertIs(at_most(a, a), True)

    def test_a_number_and_its_negative(self):
        for a in SAMPLES:
            self.assertIs(less(a, neg(a)), a[0] < 0)
            self.assertIs(at_most(a, neg(a)), a[0] <= 0)

    def test_all_pairs(self):
        for a in SAMPLES:
            for b in SAMPLES:
                self.assertIs(less(a, b), exact(a) < exact(b))
                self.assertIs(at_most(a, b), exact(a) <= exact(b))


class SumTest(FractionCase):
    def test_added_of_none_and_one(self):
        self.same(added([]), (0, 1))
        for a in SAMPLES:
            self.same(added([a]), a)

    def test_added_of_several(self):
        self.same(added([(1, 2), (1, 3), (1, 6)]), (1, 1))
        self.same(added([(1, 2), (-1, 3), (-1, 6)]), (0, 1))
        self.same(added([(0, 1), (0, 1)]), (0, 1))
        self.same(added(SAMPLES), told(sum([exact(a) for a in SAMPLES])))

    def test_added_of_a_number_and_its_negative(self):
        for a in SAMPLES:
            self.same(added([a, neg(a)]), (0, 1))

    def test_dot_of_none_and_one(self):
        self.same(dot([], []), (0, 1))
        self.same(dot([(2, 3)], [(-3, 4)]), (-1, 2))
        self.same(dot([(2, 3)], [(0, 1)]), (0, 1))

    def test_dot_of_several(self):
        self.same(dot([(1, 2), (1, 3), (0, 1)], [(1, 3), (-1, 2), (5, 1)]), (0, 1))
        self.same(dot([(1, 2), (2, 3)], [(1, 1), (3, 2)]), (3, 2))
        back = SAMPLES[::-1]
        self.same(dot(SAMPLES, back), told(sum([exact(a) * exact(b) for a, b in zip(SAMPLES, back)])))

    def test_dot_with_itself(self):
        row = [(1, 2), (-1, 2)]
        self.same(dot(row, row), (1, 2))

    def test_lists_are_not_modified(self):
        one, other = [(1, 2), (1, 3)], [(3, 1), (-1, 1)]
        added(one)
        dot(one, other)
        self.assertEqual(one, [(1, 2), (1, 3)])
        self.assertEqual(other, [(3, 1), (-1, 1)])


class FormTest(unittest.TestCase):
    def test_fractions(self):
        for a in SAMPLES + [ZERO, ONE]:
            self.assertIs(is_fraction(a), True)

    def test_pairs_that_are_none(self):
        for a in [(0, 2), (2, 4), (1, 0), (0, 0), (0, -1), (1, -2), (-1, -1), (3, 3)]:
            self.assertIs(is_fraction(a), False, a)

    def test_values_of_other_kinds(self):
        for a in [
                None, 0, 1, "0", "12", 0.5, (), (1,), (1, 2, 3), [0, 1], (None, 1), (1, None), ("1", 2), (1, "2"),
                (1.0, 1), (0, 1.0), (True, 1), (0, True), ((0, 1), (0, 1)), {0: 0, 1: 1}]:
            self.assertIs(is_fraction(a), False, a)

    def test_the_constants(self):
        self.assertEqual((ZERO, ONE), ((0, 1), (1, 1)))


class InterfaceTest(unittest.TestCase):
    def test_names_and_arguments(self):
        for name, parameters in PARAMETERS.items():
            function = getattr(module, name)
            self.assertEqual(list(inspect.signature(function).parameters), parameters)
            self.assertEqual(function.__module__, "otherhow.ratio")


if __name__ == "__main__":
    unittest.main()
