"""The errors that the package raises; each keeps the values that it tells of."""


class NoKind(LookupError):
    """A book has no kind of this number."""

    def __init__(self, number):
        LookupError.__init__(self, number)
        self.number = number


class NoPlace(LookupError):
    """A puzzle has no place of this number."""

    def __init__(self, number):
        LookupError.__init__(self, number)
        self.number = number


class NothingDone(LookupError):
    """There is no deed to be taken back."""


class NoValue(LookupError):
    """A book has no value of this number."""

    def __init__(self, number):
        LookupError.__init__(self, number)
        self.number = number


class NoWord(LookupError):
    """This word begins no promise."""

    def __init__(self, word):
        LookupError.__init__(self, word)
        self.word = word


class BadLine(ValueError):
    """The line of this number, counted from 0, can not be read."""

    def __init__(self, number):
        ValueError.__init__(self, number)
        self.number = number


class BadText(ValueError):
    """This piece of text can not be read."""

    def __init__(self, piece):
        ValueError.__init__(self, piece)
        self.piece = piece


class CanNot(ValueError):
    """What is asked for does not exist."""


class Unfit(ValueError):
    """What is handed in does not fit together."""
