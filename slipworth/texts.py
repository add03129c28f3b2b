"""Tables as texts, with a line for each fault."""

from slipworth.checks import check_arguments, lines_of, shown, text_shown
from slipworth.errors import BadText
from slipworth.prices import MOST_FAULTS, is_fault, is_table

ARROW = ">"
DIGITS = "0123456789"


def printed(table):
    """The text of the table."""
    check_arguments([is_table(table)])
    return "".join([f"{shown(meant)} {ARROW} {shown(written)} {cost}\n" for meant, written, cost in table])


def parse(text):
    """The table of the text."""
    if not isinstance(text, str):
        raise BadText(0)
    found = {}
    for at, line in enumerate(lines_of(text)):
        words = [word for word in line.split(" ") if word]
        if words:
            fault = fault_of(words)
            if not is_fault(fault) or fault[:2] in found or len(found) == MOST_FAULTS:
                raise BadText(at)
            found[fault[:2]] = fault
    return tuple(sorted(found.values()))


def fault_of(words):
    """The fault that a line of these words is meant to be, None if it is not of the form."""
    if len(words) != 4 or words[1] != ARROW:
        return None
    meant, _, written, cost = words
    return (text_shown(meant), text_shown(written), digit_of(cost))


def digit_of(word):
    """The number that a word of one digit tells, None for any other word."""
    return int(word) if len(word) == 1 and word in DIGITS else None
