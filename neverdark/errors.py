"""The errors of the package."""


class NeverdarkError(ValueError):
    """The base class of all errors of the package."""


class BadText(NeverdarkError):
    """A text has a wrong line; `line` is its number, counted from 1."""

    def __init__(self, line):
        super().__init__(f"line {line} is wrong")
        self.line = line


class NotAllowed(NeverdarkError):
    """Something was asked for that is not allowed; `word` says what."""

    def __init__(self, word):
        super().__init__(f"not allowed: {word}")
        self.word = word
