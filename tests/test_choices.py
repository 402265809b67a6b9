import copy
import inspect
import random
import unittest
from fractions import Fraction

from otherhow import choices as module
from otherhow.choices import best_lot, lot_question
from otherhow.ends import least
from otherhow.events import parse_event
from otherhow.houses import parse_house
from otherhow.mixes import agrees, value_in
from otherhow.papers import judge_none, judge_paper
from otherhow.tables import Data
from tests.support import (
    PAIR, exact, has_no_list_twice, house_of, random_event, random_experiment, random_mix, random_question,
    random_sentences, sample_houses, share_lists, table_near, told)

ZERO, QUARTER, THIRD, HALF, MOST, ONE = (0, 1), (1, 4), (1, 3), (1, 2), (3, 4), (1, 1)
FREE = (ZERO, ONE)
NOBODY = [("never", 1, 0, 0, 1), ("never", 1, 1, 0, 1)]


def pair(tables=(), sentences=()):
    return Data(parse_house(PAIR), list(sentences), list(tables))


def known(*chances):
    return [(chance, chance) for chance in chances]


def asked(data, *terms):
    return [(told(Fraction(factor)), parse_event(data.house, text)) for factor, text in terms]


class LotQuestionTest(unittest.TestCase):
    def setUp(self):
        data = pair()
        self.first = asked(data, (2, "x yes"), (Fraction(-1, 3), "y no if x no"), (2, "x yes"))
        self.second = asked(data, (Fraction(1, 2), ""))

    def test_all_terms_in_order(self):
        (_, one), (_, two), _ = self.first
        question = lot_question([self.first, self.second], [THIRD, (2, 3)])
        self.assertEqual(question, [((2, 3), one), ((-1, 9), two), ((2, 3), one), (THIRD, [])])
        question = lot_question([self.second, self.first], [HALF, HALF])
        self.assertEqual(question, [(QUARTER, []), (ONE, one), ((-1, 6), two), (ONE, one)])

    def test_a_chance_of_0(self):
        (_, one), (_, two), _ = self.first
        question = lot_question([self.first, self.second], [ZERO, ONE])
        self.assertEqual(question, [(ZERO, one), (ZERO, two), (ZERO, one), (HALF, [])])
        self.assertEqual(lot_question([self.first], [ONE]), self.first)

    def test_questions_without_terms(self):
        self.assertEqual(lot_question([[]], [ONE]), [])
        self.assertEqual(lot_question([[], self.second, []], [HALF, HALF, ZERO]), [(QUARTER, [])])

    def test_six_questions_of_twelve_terms(self):
        questions = [[((k, 7), [(0, 0, [(1, 1)])])] * 12 for k in range(1, 7)]
        question = lot_question(questions, [(k, 21) for k in range(1, 7)])
        self.assertEqual(len(question), 72)
        self.assertEqual([term[0] for term in question[::12]], [told(Fraction(k * k, 147)) for k in range(1, 7)])

    def test_lists_are_new(self):
        questions, lot = [self.first, self.first], [HALF, HALF]
        passed = copy.deepcopy((questions, lot))
        question = lot_question(questions, lot)
        self.assertEqual((questions, lot), passed)
        self.assertFalse(share_lists(question, questions))
        self.assertTrue(has_no_list_twice(question))
        for _, event in question:
            event[0][2].append((1, 1))
            event.append((0, 0, []))
        self.assertEqual((questions, lot), passed)


class LotCase(unittest.TestCase):
    def checked(self, data, questions):
        """The value and the lot, or None and None; all that point 28 says is checked."""
        passed = copy.deepcopy((questions, data.sentences, data.tables, data.ways))
        answer = best_lot(data, questions)
        self.assertEqual((questions, data.sentences, data.tables, data.ways), passed)
        self.assertIs(type(answer), tuple)
        self.assertTrue(has_no_list_twice(answer))
        self.assertFalse(share_lists(answer, [questions, data.tables, data.ways]))
        if answer[0] == "none":
            name, paper = answer
            self.assertIs(judge_none(data, paper), True)
            return None, None
        name, value, lot, mix, paper = answer
        self.assertEqual(name, "lot")
        self.assertEqual((type(lot), len(lot)), (list, len(questions)))
        chances = [exact(chance) for chance in lot]
        self.assertTrue(all(chance >= 0 for chance in chances) and sum(chances) == 1)
        self.assertIs(judge_paper(data, lot_question(questions, lot), value, paper), True)
        self.assertIs(agrees(data, mix), True)
        for question in questions:
            self.assertLessEqual(exact(value_in(data, question, mix)), exact(value))
        self.assertEqual(least(data, lot_question(questions, lot))[1], value)
        for question in questions:
            self.assertLessEqual(exact(least(data, question)[1]), exact(value))
        return exact(value), lot


class BestLotTest(LotCase):
    def test_one_choice(self):
        data = pair([([(0, 1)], [1], known(QUARTER, MOST))])
        self.assertEqual(self.checked(data, [asked(data, (1, "y yes if x yes"))]), (Fraction(3, 4), [ONE]))
        self.assertEqual(self.checked(data, [asked(data, (-2, "y yes if x yes"))]), (Fraction(-3, 2), [ONE]))
        self.assertEqual(self.checked(data, [asked(data, (1, "x yes"))]), (0, [ONE]))
        self.assertEqual(self.checked(data, [[]]), (0, [ONE]))

    def test_one_choice_is_the_best(self):
        data = pair([([(0, 1)], [1], known(QUARTER, MOST)), ([(0, 0)], [1], known(HALF, HALF))])
        yes, no = asked(data, (1, "y yes if x yes")), asked(data, (1, "y yes if x no"))
        self.assertEqual(self.checked(data, [yes, no]), (Fraction(3, 4), [ONE, ZERO]))
        self.assertEqual(self.checked(data, [no, yes, no]), (Fraction(3, 4), [ZERO, ONE, ZERO]))

    def test_best_only_together(self):
        data = pair()
        yes, no = asked(data, (1, "x yes")), asked(data, (1, "x no"))
        self.assertEqual(self.checked(data, [yes, no]), (Fraction(1, 2), [HALF, HALF]))
        self.assertEqual(self.checked(data, [yes, asked(data, (3, "x no"))]), (Fraction(3, 4), [MOST, QUARTER]))
        ways = [asked(data, (1, f"x {x} and y {y}")) for x in ("no", "yes") for y in ("no", "yes")]
        self.assertEqual(self.checked(data, ways), (Fraction(1, 4), [QUARTER] * 4))
        self.assertEqual(self.checked(data, ways + [asked(data, (Fraction(1, 5), ""))])[0], Fraction(1, 4))
        value, lot = self.checked(data, ways + [asked(data, (Fraction(1, 3), "")), []])
        self.assertEqual((value, lot), (Fraction(1, 3), [ZERO] * 4 + [ONE, ZERO]))

    def test_together_from_tables(self):
        data = pair([([], [0], [FREE, (QUARTER, MOST)])])
        yes, no = asked(data, (1, "x yes")), asked(data, (1, "x no"))
        self.assertEqual(self.checked(data, [yes, no])[0], Fraction(1, 2))
        data = pair([([], [0], [FREE, (QUARTER, THIRD)])])
        self.assertEqual(self.checked(data, [yes, no]), (Fraction(2, 3), [ZERO, ONE]))

    def test_equal_choices(self):
        data = pair()
        question = asked(data, (1, "x yes"), (Fraction(1, 7), ""))
        for many in range(1, 7):
            self.assertEqual(self.checked(data, [question] * many)[0], Fraction(1, 7))
        other = asked(data, (1, "x no"), (Fraction(1, 7), ""))
        value, lot = self.checked(data, [question, other, question, other, question])
        self.assertEqual(value, Fraction(9, 14))
        self.assertEqual(sum([exact(chance) for chance in lot[::2]]), Fraction(1, 2))

    def test_values_below_0(self):
        data = pair()
        choices = [asked(data, (-1, "x yes"), (-1, "")), asked(data, (-3, "x no"), (-1, ""))]
        self.assertEqual(self.checked(data, choices), (Fraction(-7, 4), [MOST, QUARTER]))
        self.assertEqual(self.checked(data, [asked(data, (-4, "")), asked(data, (-5, ""))]), (-4, [ONE, ZERO]))

    def test_sentences(self):
        for sentences, value in [([], 0), ([("rises", 1, 0)], Fraction(1, 2)), ([("falls", 1, 0)], 0)]:
            data = pair([], sentences)
            choices = [asked(data, (1, "y yes if x yes")), asked(data, (1, "y no if x no"))]
            self.assertEqual(self.checked(data, choices)[0], value)

    def test_no_mix_agrees(self):
        for data in (pair([], NOBODY), pair([([], [0], [FREE, FREE])], NOBODY), pair([([], [0], known(ONE, ONE))]),
                     pair([([], [0], known(HALF, HALF)), ([], [0, 1], known(ONE, ZERO, ZERO, ZERO))])):
            for many in (1, 2, 6):
                self.assertEqual(self.checked(data, [asked(data, (1, "x yes")), []][:many] * 3), (None, None))

    def test_random_data(self):
        numbers = random.Random(1)
        together = 0
        for house in sample_houses():
            for rooms in ([0], [0, Fraction(1, 10)], [Fraction(1, 3), Fraction(2, 3)]):
                free = Data(house, random_sentences(house, numbers, 1), [])
                mix = random_mix(len(free.ways), numbers)
                tables = [table_near(free, mix, random_experiment(house, numbers), rooms, numbers)
                          for _ in range(numbers.randint(0, 2))]
                data = Data(house, free.sentences, tables)
                choices = [random_question(house, numbers) for _ in range(numbers.randint(0, 4))]
                # Of something and its opposite neither is worth much when nothing is known of it.
                event = random_event(house, numbers, 1)
                choices += [[((2, 1), event)], [((1, 1), []), ((-1, 1), event)]]
                value, lot = self.checked(data, choices)
                together += lot.count(ZERO) < len(lot) - 1
        self.assertGreater(together, 3)

    def test_a_large_house(self):
        numbers = random.Random(2)
        house = house_of(("x", "a b", ""), ("y", "a b", "x"), ("z", "a b", "x y"), ("w", "a b", "x"))
        free = Data(house, [], [])
        mix = random_mix(512, numbers)
        tables = [table_near(free, mix, random_experiment(house, numbers), [0, Fraction(1, 9)], numbers)
                  for _ in range(8)]
        self.checked(Data(house, [], tables), [random_question(house, numbers, 12) for _ in range(6)])


class NewTest(LotCase):
    def test_what_is_returned_is_new(self):
        data = pair([([], [0], [FREE, (QUARTER, MOST)])])
        choices = [asked(data, (1, "x yes")), asked(data, (1, "x no"))]
        first = best_lot(data, choices)
        kept = copy.deepcopy(first)
        second = best_lot(data, choices)
        self.assertFalse(share_lists(first, second))
        second[2].clear()
        second[3].clear()
        second[4][1].clear()
        self.assertEqual(best_lot(data, choices), kept)
        self.assertEqual(first, kept)


class InterfaceTest(unittest.TestCase):
    def test_names_and_arguments(self):
        for name, parameters in {"lot_question": ["questions", "lot"], "best_lot": ["data", "questions"]}.items():
            function = getattr(module, name)
            self.assertEqual(list(inspect.signature(function).parameters), parameters)
            self.assertEqual(function.__module__, "otherhow.choices")


if __name__ == "__main__":
    unittest.main()
