"""What counts as an integer, a sequence, a word; how arguments are refused; how lines are read and written."""

from slipworth.errors import BadValue

LETTERS = "abcdef"
NOTHING = "-"


def check_arguments(fits):
    """Raise BadValue at the first argument that does not fit; fits tells it of each, in order."""
    for at, fit in enumerate(fits):
        if not fit:
            raise BadValue(at)


def is_whole(value, low, high):
    """Whether value is an integer from low to high."""
    # True and False are integers for Python, but not for this package.
    return isinstance(value, int) and not isinstance(value, bool) and low <= value <= high


def is_sequence(value):
    """Whether value is a list or a tuple."""
    return isinstance(value, (list, tuple))


def is_triple(value):
    """Whether value is a sequence of three things."""
    return is_sequence(value) and len(value) == 3


def is_word(value):
    """Whether value is a string of letters; words and texts are the same for Python."""
    return isinstance(value, str) and all([letter in LETTERS for letter in value])


def is_short(value, most):
    """Whether value is a string of at most so many letters."""
    return is_word(value) and len(value) <= most


def are_words(value, least, most):
    """Whether value is a sequence of different words, from least to most of them."""
    if not is_sequence(value) or not least <= len(value) <= most:
        return False
    return all([is_word(word) for word in value]) and len(set(value)) == len(value)


def is_rising(rows):
    """Whether each thing in the list is less than the next one."""
    return all([rows[at] < rows[at + 1] for at in range(len(rows) - 1)])


def rank(word):
    """What words and texts are ordered by."""
    return (len(word), word)


def lines_of(text):
    """What stands ahead of each line feed, and what stands behind the last one unless it is empty."""
    lines = text.split("\n")
    return lines if lines[-1] else lines[:-1]


def shown(text):
    """The text as it is written in a line, where it may not be empty."""
    return text if text else NOTHING


def text_shown(word):
    """The text that is written so in a line, None if there is none."""
    if word == NOTHING:
        return ""
    return word if word and is_word(word) else None
