import inspect
import itertools
import unittest

from otherhow import houses as module
from otherhow.errors import BadText, NotAllowed
from otherhow.houses import House, format_house, heard_bounds, parse_house, way_count
from tests.support import (
    PAIR, first_wrong, has_no_list_twice, house_of, one_word_off, rows, sample_houses, share_lists, spaced, wrong_at)

NOT_NAMES = "house variable says hears end if and ignores rises falls with never when".split()
FIVE = (
    "house variable a says p q end variable b says p q r end variable c says p q end "
    "variable d says q p hears a c end variable e says p q end end")
X = "house variable x says no yes end"
XY = X + " variable y says no yes end"
XYZ = XY + " variable z says no yes"
FULL = " ".join(["house"] + [f"variable v{k} says no yes end" for k in range(5)])

# Texts, each with the index of the first word that no house has there.
WRONG = [
    ("home variable x says no yes end end", 0),
    ("variable x says no yes end end", 0),
    ("end", 0),
    ("house house", 1),
    ("house end", 1),
    ("house x says no yes end end", 1),
    ("house variable says no yes end end", 2),
    ("house variable X says no yes end end", 2),
    ("house variable 1x says no yes end end", 2),
    ("house variable abcdefghijklm says no yes end end", 2),
    ("house variable x no yes end end", 3),
    ("house variable x hears no yes end end", 3),
    ("house variable x says end end", 4),
    ("house variable x says hears x end end", 4),
    ("house variable x says No yes end end", 4),
    ("house variable x says no end end", 5),
    ("house variable x says no hears x end end", 5),
    ("house variable x says no no end end", 5),
    ("house variable x says no no yes end end", 5),
    ("house variable x says no y-s end end", 5),
    ("house variable x says no yes no end end", 6),
    ("house variable x says no yes yes end end", 6),
    ("house variable x says no yes 3 end end", 6),
    ("house variable x says no yes hears end end", 6),
    ("house variable x says no yes hears x end end", 6),
    ("house variable x says no yes variable y says no yes end end", 6),
    ("house variable x says low mid high top end end", 7),
    ("house variable x says low mid high low end end", 7),
    ("house variable x says low mid high hears x end end", 7),
    (X + " x", 7),
    (X + " house", 7),
    (X + " hears", 7),
    (X + " variable x says no yes end end", 8),
    (X + " variable end", 8),
    (X + " variable y says no yes hears end end", 13),
    (X + " variable y says no yes hears y end end", 13),
    (X + " variable y says no yes hears z end end", 13),
    (X + " variable y says no yes hears no end end", 13),
    (X + " variable y says no yes hears hears x end end", 13),
    (X + " variable y says no yes hears x x end end", 14),
    (X + " variable y says no yes hears x y end end", 14),
    (X + " variable y says no yes hears x hears x end end", 14),
    (X + " variable y says no yes hears x variable z says no yes end end", 14),
    (X + " variable y says no yes yup hears no end end", 14),
    (X + " variable y says no yes yup nope hears x end end", 13),
    (X + " variable y says no yes x x end end", 13),
    (XYZ + " hears y x end end", 20),
    (XYZ + " hears x y x end end", 21),
    (XYZ + " hears x y y end end", 21),
    (XYZ + " hears y y end end", 20),
    (XYZ + " hears y z end end", 20),
    (XYZ + " hears x x y end end", 20),
    (XYZ + " hears z end end", 19),
    (XY + " variable x says no yes end end", 14),
    (XY + " variable y says no yes end end", 14),
    (XY + " end end", 14),
    (X + " end variable", 8),
    (X + " end end", 8),
    (X + " end x", 8),
    (FULL + " variable v5 says no yes end end", 31),
    (FULL + " variable", 31),
    (FULL + " v5", 31),
]


class ParseTest(unittest.TestCase):
    def test_the_example(self):
        house = parse_house(PAIR)
        self.assertIs(type(house), House)
        self.assertEqual(house.names, ["x", "y"])
        self.assertEqual(house.words, [["no", "yes"], ["no", "yes"]])
        self.assertEqual(house.heard, [[], [0]])
        self.assertEqual(way_count(house), 8)
        self.assertEqual(format_house(house), PAIR)

    def test_five_variables(self):
        house = parse_house(FIVE)
        self.assertEqual(house.names, ["a", "b", "c", "d", "e"])
        self.assertEqual(house.words, [["p", "q"], ["p", "q", "r"], ["p", "q"], ["q", "p"], ["p", "q"]])
        self.assertEqual(house.heard, [[], [], [], [0, 2], []])
        self.assertEqual(way_count(house), 384)
        self.assertEqual(format_house(house), FIVE)

    def test_there_and_back(self):
        for house in sample_houses():
            text = format_house(house)
            again = parse_house(text)
            self.assertEqual(again.names, house.names)
            self.assertEqual(again.words, house.words)
            self.assertEqual(again.heard, house.heard)
            self.assertEqual(format_house(again), text)

    def test_every_small_house_there_and_back(self):
        said = [["no", "yes"], ["yes", "no", "x"]]
        for many in range(1, 4):
            hearing = [list(itertools.chain(*[itertools.combinations(range(k), n) for n in range(k + 1)]))
                       for k in range(many)]
            for words in itertools.product(said, repeat=many):
                for heard in itertools.product(*hearing):
                    self.assert_there_and_back(House(["y", "x", "no"][:many], words, heard))

    def assert_there_and_back(self, house):
        if way_count(house) > 512:
            with self.assertRaises(NotAllowed):
                parse_house(format_house(house))
        else:
            again = parse_house(format_house(house))
            self.assertEqual([again.names, again.words, again.heard], [house.names, house.words, house.heard])

    def test_names_may_be_alike(self):
        house = parse_house("house variable x says x y end variable y says y x hears x end end")
        self.assertEqual(house.words, [["x", "y"], ["y", "x"]])
        self.assertEqual(house.heard, [[], [0]])

    def test_names_of_one_and_twelve_characters(self):
        house = parse_house("house variable a says b abcdefghijkl end variable a12345678901 says z9 b hears a end end")
        self.assertEqual(house.names, ["a", "a12345678901"])
        self.assertEqual(house.words, [["b", "abcdefghijkl"], ["z9", "b"]])

    def test_several_spaces(self):
        for text in (PAIR, FIVE):
            self.assertEqual(format_house(parse_house(spaced(text))), text)
            self.assertEqual(format_house(parse_house(text.replace(" ", "   "))), text)
            self.assertEqual(format_house(parse_house(" " + text)), text)
            self.assertEqual(format_house(parse_house(text + " ")), text)

    def test_other_blanks_do_not_separate(self):
        self.assertEqual(wrong_at(parse_house, PAIR.replace(" ", "\t")), 0)
        self.assertEqual(wrong_at(parse_house, PAIR.replace("x says", "x\tsays")), 2)


class WrongTextTest(unittest.TestCase):
    def test_wrong_words(self):
        for text, at in WRONG:
            self.assertEqual(wrong_at(parse_house, text), at, text)

    def test_spaces_do_not_count(self):
        for text, at in WRONG:
            self.assertEqual(wrong_at(parse_house, spaced(text)), at, text)

    def test_the_empty_text(self):
        for text in ("", " ", "     "):
            self.assertEqual(wrong_at(parse_house, text), 0)

    def test_texts_that_end_early(self):
        for text in [PAIR, FIVE] + [format_house(house) for house in sample_houses()]:
            words = text.split()
            for many in range(len(words)):
                self.assertEqual(wrong_at(parse_house, " ".join(words[:many])), many, text)

    def test_a_word_that_never_stands_in_a_house(self):
        for text in [PAIR, FIVE]:
            words = text.split()
            for at in range(len(words) + 1):
                for word in NOT_NAMES[5:] + ["Never", "3", "-", "x_"]:
                    wrong = " ".join(words[:at] + [word] + words[at + 1:])
                    self.assertEqual(wrong_at(parse_house, wrong), at, wrong)

    def test_names_that_are_none(self):
        for word in NOT_NAMES + ["Abc", "9", "1a", "abcdefghijklm", "a.b"]:
            self.assertEqual(wrong_at(parse_house, f"house variable {word} says no yes end end"), 2)
            self.assertEqual(wrong_at(parse_house, f"house variable x says {word} yes end end"), 4)
            self.assertEqual(wrong_at(parse_house, f"house variable x says no {word} end end"), 5)
            at = 7 if word == "end" else 6
            self.assertEqual(wrong_at(parse_house, f"house variable x says no yes {word} x end"), at)

    def test_all_texts_one_word_off(self):
        # With two names for all, a house has at most two variables, and a third one is begun at most.
        said = [["a", "b"], ["b", "a"]]
        texts = []
        for names in (["a"], ["b"], ["a", "b"], ["b", "a"]):
            for words in itertools.product(said, repeat=len(names)):
                for heard in [[[], []], [[], [0]]][:len(names)]:
                    texts.append(format_house(House(names, words, heard)).split())
        begun = [text[:-1] + ["variable"] for text in texts]
        for words in texts:
            for wrong in one_word_off(words, ["a", "b", "house", "variable", "says", "hears", "end", "if"]):
                if wrong not in texts:
                    self.assertEqual(wrong_at(parse_house, " ".join(wrong)), first_wrong(texts + begun, wrong), wrong)


class ManyWaysTest(unittest.TestCase):
    def test_exactly_512(self):
        for text in (
                "house variable a says p q end variable b says p q hears a end variable c says p q hears a end "
                "variable d says p q hears b c end end",
                "house variable a says p q end variable b says p q hears a end variable c says p q hears b end "
                "variable d says p q hears c end variable e says p q hears b end end"):
            house = parse_house(text)
            self.assertEqual(way_count(house), 512)
            self.assertEqual(format_house(house), text)

    def test_just_more(self):
        text = (
            "house variable a says p q r end variable b says p q r end variable c says p q hears a end "
            "variable d says p q hears b end end")
        with self.assertRaises(NotAllowed):
            parse_house(text)
        self.assertEqual(way_count(house_of(
            ("a", "p q r", ""), ("b", "p q r", ""), ("c", "p q", "a"), ("d", "p q", "b"))), 576)

    def test_very_many(self):
        house = house_of(
            ("a", "p q r", ""), ("b", "p q r", "a"), ("c", "p q r", "a b"), ("d", "p q r", "a b c"),
            ("e", "p q r", "a b c d"))
        self.assertEqual(way_count(house), 3 ** 121)
        with self.assertRaises(NotAllowed) as caught:
            parse_house(format_house(house))
        self.assertIs(type(caught.exception), NotAllowed)

    def test_bad_text_goes_first(self):
        text = (
            "house variable a says p q r end variable b says p q r hears a end variable c says p q r hears a b end end")
        with self.assertRaises(NotAllowed):
            parse_house(text)
        self.assertEqual(wrong_at(parse_house, text + " end"), 28)
        self.assertEqual(wrong_at(parse_house, text[:-4]), 27)
        self.assertEqual(wrong_at(parse_house, text[:-4] + " variable c"), 28)
        with self.assertRaises(BadText):
            parse_house(text[:-8])


class CountTest(unittest.TestCase):
    def test_heard_bounds(self):
        house = parse_house(FIVE)
        self.assertEqual([heard_bounds(house, k) for k in range(5)], [[], [], [], [2, 2], []])
        house = house_of(("x", "low mid high", ""), ("y", "no yes", ""), ("z", "a b", "x y"), ("w", "a b", "y z"))
        self.assertEqual([heard_bounds(house, k) for k in range(4)], [[], [], [3, 2], [2, 2]])

    def test_way_count(self):
        self.assertEqual([way_count(house) for house in sample_houses()], [
            2, 3, 8, 24, 18, 81, 6, 384, 384, 324, 32, 128, 512, 128])
        for house in sample_houses():
            product = 1
            for variable, said in enumerate(house.words):
                product *= len(said) ** len(rows(house, house.heard[variable]))
            self.assertEqual(way_count(house), product)


class CopyTest(unittest.TestCase):
    def test_house_copies_its_lists(self):
        names, words, heard = ["x", "y"], [["no", "yes"], ["a", "b", "c"]], [[], [0]]
        house = House(names, words, heard)
        self.assertEqual([house.names, house.words, house.heard], [names, words, heard])
        self.assertFalse(share_lists([names, words, heard], [house.names, house.words, house.heard]))
        names.append("z")
        words[0].append("maybe")
        words.append([])
        heard[1].pop()
        self.assertEqual(house.names, ["x", "y"])
        self.assertEqual(house.words, [["no", "yes"], ["a", "b", "c"]])
        self.assertEqual(house.heard, [[], [0]])

    def test_houses_share_nothing(self):
        one, other = parse_house(PAIR), parse_house(PAIR)
        self.assertFalse(share_lists([one.names, one.words, one.heard], [other.names, other.words, other.heard]))
        self.assertTrue(has_no_list_twice([one.names, one.words, one.heard]))
        copied = House(one.names, one.words, one.heard)
        self.assertFalse(share_lists([one.names, one.words, one.heard], [copied.names, copied.words, copied.heard]))

    def test_one_list_passed_twice_is_copied_twice(self):
        said = ["no", "yes"]
        house = House(["x", "y"], [said, said], [[], []])
        self.assertTrue(has_no_list_twice([house.names, house.words, house.heard]))

    def test_heard_bounds_are_new(self):
        house = parse_house(FIVE)
        for variable in range(5):
            bounds = heard_bounds(house, variable)
            expected = list(bounds)
            bounds.append(7)
            self.assertEqual(heard_bounds(house, variable), expected)
        self.assertEqual(format_house(house), FIVE)

    def test_the_house_is_not_modified(self):
        for house in sample_houses():
            before = repr([house.names, house.words, house.heard])
            format_house(house)
            way_count(house)
            heard_bounds(house, 0)
            self.assertEqual(repr([house.names, house.words, house.heard]), before)


class InterfaceTest(unittest.TestCase):
    def test_names_and_arguments(self):
        arguments = {
            "House": ["names", "words", "heard"], "parse_house": ["text"], "format_house": ["house"],
            "heard_bounds": ["house", "variable"], "way_count": ["house"]}
        for name, parameters in arguments.items():
            listed = getattr(module, name)
            self.assertEqual(list(inspect.signature(listed).parameters), parameters)
            self.assertEqual(listed.__module__, "otherhow.houses")

    def test_attributes(self):
        house = House(names=["x"], words=[["no", "yes"]], heard=[[]])
        self.assertEqual((house.names, house.words, house.heard), (["x"], [["no", "yes"]], [[]]))
        self.assertIn("__init__", House.__dict__)


if __name__ == "__main__":
    unittest.main()
