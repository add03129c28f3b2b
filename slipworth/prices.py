"""Tables of faults, and the prices that they give to words and texts."""

from heapq import heappop, heappush

from slipworth.checks import check_arguments, is_rising, is_sequence, is_short, is_triple, is_whole, is_word

MOST_FAULTS = 8
MOST_IN_PIECE = 2
GREATEST_FAULT = 9
MOST_IN_WORD = 6
GREATEST_PRICE = 3


def is_table(value):
    """Whether value is a table."""
    if not is_sequence(value) or len(value) > MOST_FAULTS:
        return False
    if not all([is_fault(fault) for fault in value]):
        return False
    return is_rising([(fault[0], fault[1]) for fault in value])


def is_fault(value):
    """Whether value is a triple (meant, typed, price)."""
    if not is_triple(value):
        return False
    meant, written, cost = value
    if not is_piece(meant) or not is_piece(written) or meant == written:
        return False
    return is_whole(cost, 1, GREATEST_FAULT)


def is_piece(value):
    """Whether value is a string of at most two letters."""
    return is_short(value, MOST_IN_PIECE)


def price(table, word, text):
    """The least price of a cut of the word and the text, None if there is none."""
    check_arguments([is_table(table), is_word(word), is_word(text)])
    best = best_ways(table, word, text)
    goal = (len(word), len(text))
    return best[goal][0] if goal in best else None


def cut(table, word, text):
    """A cut of the word and the text with the least price, None if there is none."""
    check_arguments([is_table(table), is_word(word), is_word(text)])
    best = best_ways(table, word, text)
    at, to = len(word), len(text)
    if (at, to) not in best:
        return None
    pieces = []
    while (at, to) != (0, 0):
        piece = best[at, to][1]
        pieces.append(piece)
        at -= len(piece[0])
        to -= len(piece[1])
    return tuple(reversed(pieces))


def typed(table, word, most):
    """The pairs (text, price) of all texts with a price of at most most from the word."""
    check_arguments([is_table(table), is_short(word, MOST_IN_WORD), is_whole(most, 0, GREATEST_PRICE)])
    found = list(texts_within(table, word, most).items())
    return tuple(sorted(found, key=lambda row: (row[1], len(row[0]), row[0])))


def texts_within(table, word, most):
    """All texts with a price of at most most from the word, each with its price."""
    pieces = pieces_along(table, word)
    # best[at] has the texts of what the word is from this place on, fresh those of each price alone.
    best = [{} for _ in pieces]
    best[-1][""] = 0
    fresh = {(0, len(word)): [""]}
    for total in range(most + 1):
        # A letter kept is free, but leads to a later place: so later places come first.
        for at in reversed(range(len(pieces))):
            longer = [
                written + text
                for meant, written, cost in pieces[at]
                for text in fresh.get((total - cost, at + len(meant)), [])
            ]
            added = {text: total for text in longer if text not in best[at]}
            best[at].update(added)
            fresh[total, at] = fresh.get((total, at), []) + list(added)
    return best[0]


def pieces_along(table, word):
    """For each place of the word, also the one behind it, the pieces that a cut may have there."""
    return [pieces_at(table, word, at) for at in range(len(word) + 1)]


def pieces_at(table, word, at):
    """The pieces that a cut may have where the word goes on at this place."""
    kept = [(letter, letter, 0) for letter in word[at:at + 1]]
    faults = [(meant, written, cost) for meant, written, cost in table if word[at:at + len(meant)] == meant]
    return kept + faults


def best_ways(table, word, text):
    """For pairs of places in the word and the text the least price up to there, and the last piece.

    The pairs are taken up by their price, until both ends are reached: long words
    and texts that are alike would otherwise need all pairs of their places.
    """
    pieces = pieces_along(table, word)
    best = {}
    queue = [(0, 0, 0, ("", "", 0))]
    while queue and (len(word), len(text)) not in best:
        total, at, to, last = heappop(queue)
        if (at, to) not in best:
            best[at, to] = (total, last)
            for piece in pieces[at]:
                meant, written, cost = piece
                if text[to:to + len(written)] == written:
                    heappush(queue, (total + cost, at + len(meant), to + len(written), piece))
    return best
