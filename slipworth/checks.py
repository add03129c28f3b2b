"""What counts as an integer, a sequence, a word; how arguments are refused."""

from slipworth.errors import BadValue

LETTERS = "abcdef"


def check_arguments(fits):
    """Raise BadValue at the first argument that does not fit; fits tells it of each, in order."""
    for at, fit in enumerate(fits):
        if not fit:
            raise BadValue(at)


def is_whole(value, low, high):
    """Whether value is an integer from low to high."""
    # True and False are integers for Python, but not for this package.
    return isinstance(value, int) and not isinstance(value, bool) and low <= value <= high


def is_sequence(value):
    """Whether value is a list or a tuple."""
    return isinstance(value, (list, tuple))


def is_triple(value):
    """Whether value is a sequence of three things."""
    return is_sequence(value) and len(value) == 3


def is_word(value):
    """Whether value is a string of letters; words and texts are the same for Python."""
    return isinstance(value, str) and all([letter in LETTERS for letter in value])


def is_rising(rows):
    """Whether each thing in the list is less than the next one."""
    return all([rows[at] < rows[at + 1] for at in range(len(rows) - 1)])
