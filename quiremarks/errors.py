"""The errors that the program raises."""


class QuireError(ValueError):
    """The base class of all errors of the program."""


class BadValue(QuireError):
    """An argument has a wrong form; name tells which one."""

    def __init__(self, name):
        self.name = name


class TooLarge(QuireError):
    """What would come is beyond a bound; what tells which one."""

    def __init__(self, what):
        self.what = what


class NotPossible(QuireError):
    """The call cannot be carried out; why tells the reason."""

    def __init__(self, why):
        self.why = why


class TextError(QuireError):
    """A text has a problem, told by words, at a column counted from 1."""

    def __init__(self, column, words):
        self.column = column
        self.words = words
