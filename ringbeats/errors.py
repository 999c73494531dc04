"""The errors that the program raises."""


class RingError(ValueError):
    """The base class of all errors of the program."""


class BadValue(RingError):
    """An argument has a wrong form: `name` tells which one."""

    def __init__(self, name):
        RingError.__init__(self, f"this argument has a wrong form: {name}")
        self.name = name


class TooLarge(RingError):
    """A result would pass a bound of the document: `what` tells what would."""

    def __init__(self, what):
        RingError.__init__(self, f"this would be too large: {what}")
        self.what = what


class NotPossible(RingError):
    """The arguments have the right form, but there is no such result: `why` tells the reason."""

    def __init__(self, why):
        RingError.__init__(self, f"this is not possible: {why}")
        self.why = why


class TextError(RingError):
    """A text has a problem: `column` tells where, counted from 1, and `words` which one."""

    def __init__(self, column, words):
        RingError.__init__(self, f"column {column}: {words}")
        self.column = column
        self.words = words
