import copy
import inspect
import itertools
import unittest

from otherhow import sentences as module
from otherhow.houses import parse_house
from otherhow.sentences import allows, format_sentence, parse_sentence
from tests.support import PAIR, first_wrong, house_of, one_word_off, rows, sample_houses, spaced, ways, wrong_at

TWO = house_of(("x", "low mid high", ""), ("y", "no yes", ""), ("z", "a b", "x y"))
HIGH = house_of(("x", "no yes", ""), ("y", "low mid high", "x"))
LINE = house_of(("x", "low mid high", ""), ("y", "low mid high", "x"))


def all_sentences(house):
    found = []
    for variable, heard in enumerate(house.heard):
        for other in heard:
            found.extend([(kind, variable, other) for kind in ("ignores", "rises", "falls")])
            for word, said in itertools.product(range(len(house.words[variable])), range(len(house.words[other]))):
                found.append(("never", variable, word, other, said))
    return found


def oracle(house, sentence, way):
    """Point 10, over all pairs of heard rows."""
    kind, variable = sentence[:2]
    heard = house.heard[variable]
    answers = dict(zip(rows(house, heard), way[variable]))
    if kind == "never":
        _, _, word, other, said = sentence
        return not any(row[heard.index(other)] == said and answers[row] == word for row in answers)
    at = heard.index(sentence[2])
    for one, later in itertools.product(answers, answers):
        if one[:at] + one[at + 1:] == later[:at] + later[at + 1:] and one[at] < later[at]:
            if kind == "ignores" and answers[one] != answers[later]:
                return False
            if kind == "rises" and answers[later] < answers[one]:
                return False
            if kind == "falls" and answers[later] > answers[one]:
                return False
    return True


class AllowsTest(unittest.TestCase):
    def assert_left(self, house, sentence, left):
        """Of the last variable's words, exactly those in `left` are left in."""
        head = [[0] * len(rows(house, heard)) for heard in house.heard[:-1]]
        for words in itertools.product(range(len(house.words[-1])), repeat=len(rows(house, house.heard[-1]))):
            self.assertIs(allows(house, sentence, head + [list(words)]), words in left, (sentence, words))

    def test_ignores_one(self):
        self.assert_left(parse_house(PAIR), ("ignores", 1, 0), [(0, 0), (1, 1)])
        self.assert_left(HIGH, ("ignores", 1, 0), [(0, 0), (1, 1), (2, 2)])
        self.assert_left(LINE, ("ignores", 1, 0), [(0, 0, 0), (1, 1, 1), (2, 2, 2)])

    def test_rises_with_one(self):
        self.assert_left(parse_house(PAIR), ("rises", 1, 0), [(0, 0), (0, 1), (1, 1)])
        self.assert_left(HIGH, ("rises", 1, 0), [(0, 0), (0, 1), (0, 2), (1, 1), (1, 2), (2, 2)])
        self.assert_left(LINE, ("rises", 1, 0), [
            (0, 0, 0), (0, 0, 1), (0, 0, 2), (0, 1, 1), (0, 1, 2), (0, 2, 2), (1, 1, 1), (1, 1, 2), (1, 2, 2),
            (2, 2, 2)])

    def test_falls_with_one(self):
        self.assert_left(parse_house(PAIR), ("falls", 1, 0), [(0, 0), (1, 0), (1, 1)])
        self.assert_left(HIGH, ("falls", 1, 0), [(0, 0), (1, 0), (1, 1), (2, 0), (2, 1), (2, 2)])

    def test_never_with_one(self):
        self.assert_left(parse_house(PAIR), ("never", 1, 0, 0, 1), [(0, 1), (1, 1)])
        self.assert_left(parse_house(PAIR), ("never", 1, 1, 0, 1), [(0, 0), (1, 0)])
        self.assert_left(parse_house(PAIR), ("never", 1, 0, 0, 0), [(1, 0), (1, 1)])
        self.assert_left(HIGH, ("never", 1, 2, 0, 0), [(a, b) for a in (0, 1) for b in (0, 1, 2)])

    def test_with_two_that_are_heard(self):
        # The heard rows of z are low no, low yes, mid no, mid yes, high no, high yes.
        for sentence, inside, outside in [
                (("ignores", 2, 1), [0, 0, 1, 1, 0, 0], [0, 0, 1, 1, 0, 1]),
                (("ignores", 2, 0), [0, 1, 0, 1, 0, 1], [0, 1, 0, 1, 1, 1]),
                (("rises", 2, 1), [0, 1, 1, 1, 0, 0], [0, 1, 1, 0, 0, 0]),
                (("rises", 2, 0), [0, 0, 0, 1, 1, 1], [0, 1, 0, 0, 1, 1]),
                (("falls", 2, 1), [1, 0, 0, 0, 1, 1], [1, 0, 0, 1, 1, 1]),
                (("falls", 2, 0), [1, 1, 1, 0, 0, 0], [0, 1, 0, 0, 0, 1]),
                (("never", 2, 1, 1, 0), [0, 1, 0, 1, 0, 0], [0, 0, 0, 0, 1, 0]),
                (("never", 2, 0, 0, 1), [0, 0, 1, 1, 0, 0], [1, 1, 1, 0, 1, 1])]:
            self.assertIs(allows(TWO, sentence, [[0], [0], inside]), True, sentence)
            self.assertIs(allows(TWO, sentence, [[0], [0], outside]), False, sentence)

    def test_other_variables_do_not_matter(self):
        for x, y in itertools.product(range(3), range(2)):
            self.assertIs(allows(TWO, ("rises", 2, 1), [[x], [y], [0, 1, 0, 1, 0, 1]]), True)
            self.assertIs(allows(TWO, ("falls", 2, 1), [[x], [y], [0, 1, 0, 1, 0, 1]]), False)

    def test_all_sentences_on_all_ways(self):
        for house in sample_houses():
            found = ways(house)
            for sentence in all_sentences(house):
                for way in found[::1 + len(found) // 100]:
                    self.assertIs(allows(house, sentence, way), oracle(house, sentence, way), (sentence, way))

    def test_a_variable_that_hears_three(self):
        house = house_of(("a", "p q", ""), ("b", "p q r", ""), ("c", "p q", ""), ("d", "p q", "a b c"))
        for sentence in all_sentences(house):
            for words in list(itertools.product(range(2), repeat=12))[::37]:
                way = [[0], [0], [0], list(words)]
                self.assertIs(allows(house, sentence, way), oracle(house, sentence, way), (sentence, way))


class TextTest(unittest.TestCase):
    def test_each_kind(self):
        house = parse_house(PAIR)
        for text, sentence in [
                ("y ignores x", ("ignores", 1, 0)),
                ("y rises with x", ("rises", 1, 0)),
                ("y falls with x", ("falls", 1, 0)),
                ("y never no when x yes", ("never", 1, 0, 0, 1)),
                ("y never yes when x no", ("never", 1, 1, 0, 0))]:
            self.assertEqual(parse_sentence(house, text), sentence)
            self.assertIs(type(parse_sentence(house, text)), tuple)
            self.assertEqual(format_sentence(house, sentence), text)

    def test_second_of_two(self):
        for text, sentence in [
                ("z ignores x", ("ignores", 2, 0)),
                ("z rises with y", ("rises", 2, 1)),
                ("z never b when x high", ("never", 2, 1, 0, 2)),
                ("z never a when y yes", ("never", 2, 0, 1, 1))]:
            self.assertEqual(parse_sentence(TWO, text), sentence)
            self.assertEqual(format_sentence(TWO, sentence), text)

    def test_there_and_back(self):
        for house in sample_houses():
            for sentence in all_sentences(house):
                text = format_sentence(house, sentence)
                self.assertEqual(parse_sentence(house, text), sentence)
                self.assertEqual(parse_sentence(house, spaced(text)), sentence)
                self.assertEqual(format_sentence(house, parse_sentence(house, text)), text)

    def test_words_that_are_names_too(self):
        house = house_of(("x", "y x", ""), ("y", "x y", "x"))
        self.assertEqual(parse_sentence(house, "y never x when x y"), ("never", 1, 0, 0, 0))
        self.assertEqual(format_sentence(house, ("never", 1, 1, 0, 1)), "y never y when x x")


class WrongTextTest(unittest.TestCase):
    def test_the_pair(self):
        house = parse_house(PAIR)
        for text, at in [
                ("x ignores y", 0), ("x", 0), ("z ignores x", 0), ("ignores x", 0), ("no", 0), ("Y ignores x", 0),
                ("y", 1), ("y y", 1), ("y with x", 1), ("y when x yes", 1), ("y no", 1), ("y x", 1),
                ("y ignores", 2), ("y ignores y", 2), ("y ignores z", 2), ("y ignores with x", 2), ("y ignores no", 2),
                ("y ignores x x", 3), ("y ignores x and y ignores x", 3), ("y ignores x ignores", 3),
                ("y rises", 2), ("y rises x", 2), ("y rises when x", 2), ("y rises with", 3), ("y rises with y", 3),
                ("y rises with x no", 4), ("y falls x", 2), ("y falls with", 3), ("y falls with no", 3),
                ("y falls with x x", 4),
                ("y never", 2), ("y never maybe when x no", 2), ("y never x no", 2), ("y never when", 2),
                ("y never no", 3), ("y never no with x no", 3), ("y never no x no", 3), ("y never no yes", 3),
                ("y never no when", 4), ("y never no when y no", 4), ("y never no when no", 4),
                ("y never no when x", 5), ("y never no when x x", 5), ("y never no when x maybe", 5),
                ("y never no when x yes yes", 6), ("y never no when x yes and", 6), ("y never no when x yes x no", 6)]:
            self.assertEqual(wrong_at(parse_sentence, house, text), at, text)
            self.assertEqual(wrong_at(parse_sentence, house, spaced(text)), at, text)

    def test_words_are_those_of_the_variables_before_them(self):
        self.assertEqual(wrong_at(parse_sentence, TWO, "z never no when x low"), 2)
        self.assertEqual(wrong_at(parse_sentence, TWO, "z never low when x low"), 2)
        self.assertEqual(wrong_at(parse_sentence, TWO, "z never a when x no"), 5)
        self.assertEqual(wrong_at(parse_sentence, TWO, "z never a when x a"), 5)
        self.assertEqual(wrong_at(parse_sentence, TWO, "z never a when y low"), 5)

    def test_an_earlier_variable_that_is_not_heard(self):
        house = house_of(("x", "no yes", ""), ("y", "no yes", "x"), ("z", "no yes", "y"))
        self.assertEqual(wrong_at(parse_sentence, house, "z ignores x"), 2)
        self.assertEqual(wrong_at(parse_sentence, house, "z falls with x"), 3)
        self.assertEqual(wrong_at(parse_sentence, house, "z never no when x no"), 4)
        self.assertEqual(wrong_at(parse_sentence, house, "y ignores z"), 2)

    def test_no_words(self):
        for house in sample_houses():
            for text in ("", " ", "    "):
                self.assertEqual(wrong_at(parse_sentence, house, text), 0)

    def test_a_house_in_which_nobody_hears(self):
        house = house_of(("x", "low mid high", ""), ("y", "no yes", ""))
        for text in ("x ignores y", "y ignores x", "y", "ignores", "y never no when x low"):
            self.assertEqual(wrong_at(parse_sentence, house, text), 0)

    def test_all_texts_one_word_off(self):
        for house in (parse_house(PAIR), HIGH, TWO, sample_houses()[10]):
            vocabulary = sorted({*house.names, *itertools.chain(*house.words), "q", "ignores", "rises", "falls"})
            vocabulary += ["with", "never", "when", "and", "if"]
            texts = [format_sentence(house, sentence).split() for sentence in all_sentences(house)]
            for words in texts:
                for wrong in one_word_off(words, vocabulary):
                    if wrong not in texts:
                        at = first_wrong(texts, wrong)
                        self.assertEqual(wrong_at(parse_sentence, house, " ".join(wrong)), at, wrong)


class CopyTest(unittest.TestCase):
    def test_arguments_are_not_modified(self):
        for house in sample_houses():
            way = ways(house)[-1]
            passed = [copy.deepcopy(value) for value in (house.names, house.words, house.heard, way)]
            for sentence in all_sentences(house):
                allows(house, sentence, way)
                parse_sentence(house, format_sentence(house, sentence))
            self.assertEqual([house.names, house.words, house.heard, way], passed)


class InterfaceTest(unittest.TestCase):
    def test_names_and_arguments(self):
        arguments = {
            "allows": ["house", "sentence", "way"], "parse_sentence": ["house", "text"],
            "format_sentence": ["house", "sentence"]}
        for name, parameters in arguments.items():
            function = getattr(module, name)
            self.assertEqual(list(inspect.signature(function).parameters), parameters)
            self.assertEqual(function.__module__, "otherhow.sentences")


if __name__ == "__main__":
    unittest.main()
