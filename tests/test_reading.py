import unittest

from otherhow.errors import BadText
from otherhow.reading import Reader, is_name
from tests.support import wrong_at

NOT_NAMES = "house variable says hears end if and ignores rises falls with never when".split()


class NameTest(unittest.TestCase):
    def test_lengths(self):
        for name in ("a", "z", "ab", "abcdefghijkl", "a12345678901", "a" * 11):
            self.assertIs(is_name(name), True, name)
        for word in ("", "abcdefghijklm", "a123456789012", "a" * 40):
            self.assertIs(is_name(word), False, word)

    def test_digits(self):
        for name in ("a0", "z9", "a1b2", "x0123456789"):
            self.assertIs(is_name(name), True, name)
        for word in ("0", "9", "0a", "1abc", "9z"):
            self.assertIs(is_name(word), False, word)

    def test_all_characters(self):
        good = "abcdefghijklmnopqrstuvwxyz"
        for code in range(0, 300):
            sign = chr(code)
            self.assertIs(is_name(sign), sign in good, code)
            self.assertIs(is_name("a" + sign), sign in good + "0123456789", code)
            self.assertIs(is_name("a" + sign + "b"), sign in good + "0123456789", code)

    def test_capitals(self):
        for word in ("A", "Ab", "aB", "abC"):
            self.assertIs(is_name(word), False, word)

    def test_words_that_are_no_names(self):
        for word in NOT_NAMES:
            self.assertIs(is_name(word), False, word)

    def test_words_that_look_like_them(self):
        for word in NOT_NAMES:
            self.assertIs(is_name(word + "x"), True, word)
            self.assertIs(is_name(word[:-1]), True, word)
        for name in ("no", "yes", "set", "seen", "or", "not", "then", "at", "least"):
            self.assertIs(is_name(name), True, name)


class ReaderTest(unittest.TestCase):
    def test_words_stand_between_spaces(self):
        for text in ("a b c", " a b c", "a b c ", "a  b c", "   a b     c    "):
            reader = Reader(text)
            self.assertEqual([reader.take([word]) for word in "abc"], ["a", "b", "c"])
            self.assertTrue(reader.ended())
            reader.finish()

    def test_no_words(self):
        for text in ("", " ", "    "):
            reader = Reader(text)
            self.assertTrue(reader.ended())
            self.assertEqual(reader.coming(), "")
            reader.finish()

    def test_a_wrong_word_is_not_taken(self):
        reader = Reader("a b")
        self.assertEqual(wrong_at(reader.take, ["b", "c"]), 0)
        self.assertEqual(reader.take(["b", "a"]), "a")
        self.assertEqual(wrong_at(reader.take_index, ["a", "c"]), 1)
        self.assertEqual(reader.coming(), "b")
        self.assertEqual(reader.take_index(["a", "b"]), 1)
        self.assertEqual(wrong_at(reader.take, ["a", "b"]), 2)

    def test_words_too_many(self):
        reader = Reader("a b")
        reader.take_name([])
        with self.assertRaises(BadText) as caught:
            reader.finish()
        self.assertEqual(caught.exception.at, 1)

    def test_names(self):
        reader = Reader("a b Bad")
        self.assertEqual(reader.take_name([]), "a")
        self.assertEqual(wrong_at(reader.take_name, ["a", "b"]), 1)
        self.assertEqual(reader.take_name(["a"]), "b")
        self.assertEqual(wrong_at(reader.take_name, []), 2)


if __name__ == "__main__":
    unittest.main()
