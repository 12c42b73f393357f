"""The errors of the package."""


class RightrowsError(ValueError):
    """The base class of all errors of the package."""


# Where an error has a number, Python itself keeps it as the message. It is not
# put into a sentence here: Python refuses to write out very great integers.


class UnknownVersion(RightrowsError):
    """A store has no version with this number."""

    def __init__(self, number):
        self.number = number


class TooManyVersions(RightrowsError):
    """A store has 20 versions already."""


class InvalidLine(RightrowsError):
    """The line with this number of a written table cannot be read."""

    def __init__(self, number):
        self.number = number


class InvalidWord(RightrowsError):
    """The word with this number of a written query or change cannot be read."""

    def __init__(self, number):
        self.number = number


class Refused(RightrowsError):
    """A reader refuses a certificate with a word at the entry with a number."""

    def __init__(self, word, number):
        self.word = word
        self.number = number
