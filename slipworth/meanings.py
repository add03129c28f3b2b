"""What is meant: the words of a machine that have a price for a text."""

from heapq import heappop, heappush

from slipworth.checks import check_arguments, is_short, is_whole
from slipworth.machines import is_machine, steps_of, useful_steps, walked
from slipworth.prices import GREATEST_PRICE, MOST_IN_WORD, is_table, pieces_along


def within(table, machine, text, most):
    """The pairs (word, price) of all words of the machine with a price of at most most for the text."""
    check_question(table, machine, text, most)
    return tuple(words_for(table, machine, text, most, None))


def meant(table, machine, text, most):
    """The pair (price, words) of the least price for the text up to most, None if there is none."""
    check_question(table, machine, text, most)
    found = words_for(table, machine, text, most, None)
    if not found:
        return None
    least = found[0][1]
    return (least, tuple([word for word, total in found if total == least]))


def check_question(table, machine, text, most):
    """Refuse what is no table, no machine, no text or no price."""
    fits = [is_table(table), is_machine(machine), is_short(text, MOST_IN_WORD), is_whole(most, 0, GREATEST_PRICE)]
    check_arguments(fits)


def words_for(table, machine, text, most, many):
    """The pairs (word, price) with a price of at most most for the text, by price, then by word.

    Only the first pairs, as many as many tells, unless it is None. Then for each place
    in the text and each state only so many beginnings of words are taken up: whatever
    goes on from there makes no other beginning come first.
    """
    pieces = pieces_along([(written, meaning, cost) for meaning, written, cost in table], text)
    steps = useful_steps(machine[1], steps_of(machine[2]))
    found = []
    seen = {}
    taken = {}
    queue = [(0, 0, "", 0, 0)]
    while queue and len(found) != many:
        total, _, word, to, state = heappop(queue)
        already = taken.get((to, state), 0)
        if (to, word) not in seen and already != many:
            seen[to, word] = True
            taken[to, state] = already + 1
            if to == len(text) and state in machine[1]:
                found.append((word, total))
            for written, meaning, cost in pieces[to]:
                behind = walked(steps, state, meaning)
                if behind is not None and total + cost <= most:
                    longer = word + meaning
                    heappush(queue, (total + cost, len(longer), longer, to + len(written), behind))
    return found
