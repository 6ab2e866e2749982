"""The errors that the program raises by name."""


class Refused(ValueError):
    """What was asked for is refused."""


class Misused(Refused):
    """A word stands where it has no meaning."""

    def __init__(self, word):
        super().__init__(f"misused word: {word}")
        self.word = word
