"""The errors that the package raises."""


class SlipError(Exception):
    """The base class of all errors of the package."""


class BadValue(SlipError):
    """An argument is not as described; at is its position, from 0 on."""

    def __init__(self, at):
        self.at = at


class BadText(SlipError):
    """A text is not that of a table; at is the number of the line, from 0 on."""

    def __init__(self, at):
        self.at = at


class BadPaper(SlipError):
    """A paper is not right; at is the number of the line, from 0 on."""

    def __init__(self, at):
        self.at = at


class NotMeant(SlipError):
    """No word is meant by the text."""

    def __init__(self, text):
        self.text = text


class NoWord(SlipError):
    """The word to be taken out is not in."""

    def __init__(self, word):
        self.word = word


class Mixed(SlipError):
    """A word shares the text with another one."""

    def __init__(self, word, text):
        self.word = word
        self.text = text


class TooMany(SlipError):
    """A machine would need more states than a machine may have."""
