"""The errors that the program raises."""


class BeenError(ValueError):
    """The base class of all errors that the program raises."""


class BadText(BeenError):
    """A text is not one of its kind; `at` is the index of the first wrong word."""

    def __init__(self, at):
        super().__init__(f"the text is wrong from word {at} on")
        self.at = at


class UnknownName(BeenError):
    """Nothing stands under the name."""


class NotAllowed(BeenError):
    """What is asked for is not allowed."""
