"""The errors that the package raises, one class for each kind of failure."""


class NoToken(LookupError):
    """A number was handed in that ought to be a TOKEN and is none."""

    def __init__(self, token):
        LookupError.__init__(self, f"no TOKEN has the number {token}")
        self.token = token


class NoWord(LookupError):
    """A word was handed in that stands for nothing."""

    def __init__(self, word):
        LookupError.__init__(self, f"no such word: {word}")
        self.word = word


class NothingDone(LookupError):
    """There is nothing that could be undone or done again."""

    def __init__(self):
        LookupError.__init__(self)


class Unfit(ValueError):
    """What was handed in does not fit together."""

    def __init__(self):
        ValueError.__init__(self)


class NoPaper(ValueError):
    """Nothing there is shows what was asked for."""

    def __init__(self):
        ValueError.__init__(self)


class TooMany(ValueError):
    """There are more than are told."""

    def __init__(self):
        ValueError.__init__(self)


class BadText(ValueError):
    """The word at this place of a text cannot stand there."""

    def __init__(self, place):
        ValueError.__init__(self, f"the word at place {place} cannot stand there")
        self.place = place


class BadLine(ValueError):
    """The line with this number cannot stand there."""

    def __init__(self, number):
        ValueError.__init__(self, f"the line with the number {number} cannot stand there")
        self.number = number
