"""What a name is (point 4), and reading texts word by word (point 6)."""

from otherhow.errors import BadText

LETTERS = "abcdefghijklmnopqrstuvwxyz"
DIGITS = "0123456789"
NOT_NAMES = (
    "house", "variable", "says", "hears", "end", "if", "and",
    "ignores", "rises", "falls", "with", "never", "when")


def is_name(word):
    """Return whether a value of any kind is a name."""
    if not isinstance(word, str) or word == "" or len(word) > 12 or word in NOT_NAMES:
        return False
    return word[0] in LETTERS and all(sign in LETTERS + DIGITS for sign in word)


class Reader:
    """The words of a text, taken one after the other; `at` is the index of the next one.

    Each method that takes a word raises BadText if the word, or the end of the
    text, is not what may stand there.
    """

    def __init__(self, text):
        # Words stand between spaces alone: split() would also split at other blanks.
        self.words = [word for word in text.split(" ") if word != ""]
        self.at = 0

    def ended(self):
        """Return whether all words are taken."""
        return self.at == len(self.words)

    def coming(self):
        """Return the next word, or at the end the empty string, which is never a word."""
        if self.ended():
            return ""
        return self.words[self.at]

    def take(self, allowed):
        """Take one of the words that are allowed, and return it."""
        word = self.coming()
        if word not in allowed:
            raise BadText(self.at)
        self.at += 1
        return word

    def take_index(self, allowed):
        """Take one of the words that are allowed, and return its index among them."""
        return allowed.index(self.take(allowed))

    def take_name(self, used):
        """Take a name that was not used, and return it."""
        word = self.coming()
        if word in used or not is_name(word):
            raise BadText(self.at)
        self.at += 1
        return word

    def finish(self):
        """Take the end of the text."""
        if not self.ended():
            raise BadText(self.at)
