"""Marks behind words: texts that words share, the fewest marks that part them, papers that fewer do not."""

from slipworth.checks import are_words, check_arguments, is_short, is_whole, lines_of, rank, shown, text_shown
from slipworth.errors import BadPaper
from slipworth.prices import GREATEST_PRICE, MOST_IN_PIECE, MOST_IN_WORD, is_table, price, texts_within

MOST_MARKED = 7


def shared(table, one, other, most):
    """The least text with a price of at most most from both words, and these prices, None if there is none."""
    short = [is_short(one, MOST_IN_WORD), is_short(other, MOST_IN_WORD)]
    check_arguments([is_table(table)] + short + [is_whole(most, 0, GREATEST_PRICE)])
    return least_shared(texts_within(table, one, most), texts_within(table, other, most))


def sharing(table, words, most):
    """The pairs of numbers of words that share a text."""
    check_arguments(fits_question(table, words, most))
    return tuple(shared_texts([texts_within(table, word, most) for word in words]))


def marks(table, words, most):
    """The first tuple with the fewest marks that gives different ones to words that share a text."""
    check_arguments(fits_question(table, words, most))
    return fewest_marks(shared_texts([texts_within(table, word, most) for word in words]), len(words))


def paper(table, words, most):
    """A right paper that one mark less than the fewest does not do."""
    check_arguments(fits_question(table, words, most))
    pairs = shared_texts([texts_within(table, word, most) for word in words])
    count = len(set(fewest_marks(pairs, len(words)))) - 1
    return "".join([line + "\n" for line in entry_lines(pairs, count, ())])


def paper_holds(table, words, most, count, text):
    """True if the text is a right paper that the count of marks does not do."""
    check_arguments(fits_question(table, words, most) + [is_whole(count, 0, MOST_MARKED)])
    if not isinstance(text, str):
        raise BadPaper(0)
    lines = lines_of(text)
    # The marks on the way to each entry that is still to come, those of the next one last.
    waiting = [(None,) * len(words)]
    for at, line in enumerate(lines):
        if not waiting:
            raise BadPaper(at)
        given = waiting.pop()
        parts = line.split(" ")
        word = word_given(parts, given)
        if word is not None:
            waiting.extend(branches(given, word, count)[::-1])
        elif not is_clash(parts, given, table, words, most):
            raise BadPaper(at)
    if waiting:
        raise BadPaper(len(lines))
    return True


def fits_question(table, words, most):
    """For a table, words to be marked and a price whether each is as described."""
    fit = are_words(words, 1, MOST_MARKED) and all([is_short(word, MOST_IN_WORD) for word in words])
    return [is_table(table), fit, is_whole(most, 0, GREATEST_PRICE)]


def least_shared(first, second):
    """The least text that both have, and its prices in them, None if there is none."""
    both = [text for text in first if text in second]
    if not both:
        return None
    text = min(both, key=rank)
    return (text, first[text], second[text])


def shared_texts(texts):
    """For each pair of numbers of words that share a text the least one, given the texts of each word."""
    found = {}
    for first in range(len(texts)):
        for second in range(first + 1, len(texts)):
            both = least_shared(texts[first], texts[second])
            if both is not None:
                found[first, second] = both[0]
    return found


def fewest_marks(pairs, many):
    """The first tuple with the fewest marks for so many words, given the pairs that share a text."""
    count = 1
    found = first_marks(pairs, many, count, ())
    while found is None:
        count += 1
        found = first_marks(pairs, many, count, ())
    return found


def first_marks(pairs, many, count, given):
    """The first tuple of at most so many marks that begins with those given, None if there is none."""
    if clashing(pairs, given) is not None:
        return None
    if len(given) == many:
        return given
    for mark in next_marks(given, count):
        found = first_marks(pairs, many, count, given + (mark,))
        if found is not None:
            return found
    return None


def clashing(pairs, given):
    """The first word with the mark of the last one given that shares a text with it, None if there is none."""
    last = len(given) - 1
    for word in range(last):
        if given[word] == given[last] and (word, last) in pairs:
            return word
    return None


def next_marks(given, count):
    """The marks that a further word may get: those given, and a new one if fewer than the count are given."""
    # Marks are given from 0 on, so the new one is the number of those given.
    return list(range(min(len(set(given)) + 1, count)))


def entry_lines(pairs, count, given):
    """The lines of an entry, and its branches, on the way to which the first words have got these marks."""
    last = len(given) - 1
    first = clashing(pairs, given)
    if first is not None:
        text = shown(pairs[first, last])
        return [f"clash {first} {last} {text}"]
    lines = [f"give {len(given)}"]
    for mark in next_marks(given, count):
        lines.extend(entry_lines(pairs, count, given + (mark,)))
    return lines


def word_given(parts, given):
    """The number of the word that a line of these parts gives a mark, None if it may not."""
    if len(parts) != 2 or parts[0] != "give":
        return None
    word = number_of(parts[1], len(given))
    return word if word is not None and given[word] is None else None


def branches(given, word, count):
    """The marks on the way to each branch if the word gets a mark behind those given."""
    marked = [mark for mark in given if mark is not None]
    return [given[:word] + (mark,) + given[word + 1:] for mark in next_marks(marked, count)]


def is_clash(parts, given, table, words, most):
    """Whether a line of these parts tells a text that two words with the same mark share."""
    if len(parts) != 4 or parts[0] != "clash":
        return False
    one, other = number_of(parts[1], len(words)), number_of(parts[2], len(words))
    text = text_shown(parts[3])
    if one is None or other is None or text is None or one >= other:
        return False
    if given[one] is None or given[one] != given[other]:
        return False
    return is_within(table, words[one], text, most) and is_within(table, words[other], text, most)


def number_of(part, many):
    """The number below many that is written so, None if there is none."""
    written = [str(number) for number in range(many)]
    return written.index(part) if part in written else None


def is_within(table, word, text, most):
    """Whether the text has a price of at most most from the word."""
    # A fault costs 1 at least and types two letters at most, so longer texts need no search.
    if len(text) > len(word) + MOST_IN_PIECE * most:
        return False
    total = price(table, word, text)
    return total is not None and total <= most
