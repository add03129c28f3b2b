"""Tables alike: tables that give every word and text the same price."""

from slipworth.checks import check_arguments
from slipworth.prices import is_table, price


def is_alike(one, other):
    """Whether the two tables give every word and every text the same price."""
    return unlike(one, other) is None


def unlike(one, other):
    """The least (word, text, first, second) with different prices in the two tables, None without any."""
    check_arguments([is_table(one), is_table(other)])
    found = []
    # A cut of several pieces costs the same in both tables if each of its pieces does,
    # and the pieces are smaller: so the least word and text are a fault.
    for word, text, _ in list(one) + list(other):
        first = price(one, word, text)
        second = price(other, word, text)
        if first != second:
            found.append((word, text, first, second))
    if not found:
        return None
    return min(found, key=size_of)


def size_of(row):
    """What an answer of unlike is ordered by: its letters together, then its word, then its text."""
    word, text = row[:2]
    return (len(word) + len(text), len(word), word, len(text), text)


def least_table(table):
    """The faults of the table that its other faults do not make up at their price or less."""
    check_arguments([is_table(table)])
    kept = []
    for at, (meant, written, cost) in enumerate(table):
        others = list(table[:at]) + list(table[at + 1:])
        made = price(others, meant, written)
        if made is None or made > cost:
            kept.append((meant, written, cost))
    return tuple(kept)
