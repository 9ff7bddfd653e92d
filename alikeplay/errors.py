"""The errors that the program raises."""


class PlayError(ValueError):
    """The base class of all errors of the program."""


class BadValue(PlayError):
    """An argument has a wrong form."""

    def __init__(self, name):
        self.name = name


class BadScript(PlayError):
    """A text has a problem at a line and a column."""

    def __init__(self, line, column, words):
        self.line = line
        self.column = column
        self.words = words


class BadGame(PlayError):
    """A part of a game has a wrong form."""

    def __init__(self, where, why):
        self.where = where
        self.why = why


class TooLarge(PlayError):
    """Something would go beyond its bound."""

    def __init__(self, what):
        self.what = what
