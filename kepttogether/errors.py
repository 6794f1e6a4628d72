"""The errors that the program raises."""


class TogetherError(ValueError):
    """The base class of all errors of the program."""


class BadValue(TogetherError):
    """An argument has a wrong form; `name` is the argument."""

    def __init__(self, name):
        TogetherError.__init__(self, f"the argument {name} has a wrong form")
        self.name = name


class TooLarge(TogetherError):
    """A bound is exceeded; `what` is that of which there is too much."""

    def __init__(self, what):
        TogetherError.__init__(self, f"too large: {what}")
        self.what = what


class NotPossible(TogetherError):
    """What was asked for cannot be done; `why` is the reason, a word."""

    def __init__(self, why):
        TogetherError.__init__(self, f"not possible: {why}")
        self.why = why


class TextError(TogetherError):
    """A text has a problem at a column, which is counted from 1."""

    def __init__(self, column, words):
        TogetherError.__init__(self, f"column {column}: {words}")
        self.column = column
        self.words = words
