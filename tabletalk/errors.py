"""The errors that the program raises."""


class TableError(ValueError):
    """The base class of all errors of the program."""


class BadValue(TableError):
    """An argument has a wrong form; name tells which one."""

    def __init__(self, name):
        self.name = name


class TooLarge(TableError):
    """Something is beyond a bound; what tells it."""

    def __init__(self, what):
        self.what = what


class NotPossible(TableError):
    """What was asked for is not there, or cannot be done; why tells the reason."""

    def __init__(self, why):
        self.why = why


class TextError(TableError):
    """A text has a problem, told by words, at a column that is counted from 1."""

    def __init__(self, column, words):
        self.column = column
        self.words = words
