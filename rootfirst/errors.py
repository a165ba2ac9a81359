"""The errors that the program raises."""


class TreeError(ValueError):
    """The base class of all errors of the program."""


class BadValue(TreeError):
    """An argument has a wrong form."""

    def __init__(self, name):
        TreeError.__init__(self, name)
        self.name = name


class TooLarge(TreeError):
    """Something would be larger than its bound."""

    def __init__(self, what):
        TreeError.__init__(self, what)
        self.what = what


class NotPossible(TreeError):
    """The arguments have the right forms, but do not go together."""

    def __init__(self, why):
        TreeError.__init__(self, why)
        self.why = why


class TextError(TreeError):
    """A text has a problem at a column."""

    def __init__(self, column, words):
        TreeError.__init__(self, f"{words} (column {column})")
        self.column = column
        self.words = words
