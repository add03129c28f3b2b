"""Machines: which words they tell, and the least machine that tells the same words."""

from slipworth.checks import LETTERS, are_words, check_arguments, is_rising, is_sequence, is_triple, is_whole, is_word
from slipworth.errors import TooMany

MOST_STATES = 8
MOST_WORDS = 12
MOST_TOLD = 50


def is_machine(value):
    """Whether value is a machine."""
    if not is_triple(value):
        return False
    count, ends, moves = value
    return is_whole(count, 1, MOST_STATES) and are_ends(ends, count) and are_moves(moves, count)


def are_ends(value, count):
    """Whether value is a sequence of different states, ascending."""
    if not is_sequence(value):
        return False
    return all([is_whole(state, 0, count - 1) for state in value]) and is_rising(value)


def are_moves(value, count):
    """Whether value is a sequence of moves, ascending, no two with the same state and letter ahead."""
    if not is_sequence(value) or not all([is_move(move, count) for move in value]):
        return False
    return is_rising([(move[0], move[1]) for move in value])


def is_move(value, count):
    """Whether value is a triple (state, letter, state)."""
    if not is_triple(value):
        return False
    state, letter, behind = value
    if not is_word(letter) or len(letter) != 1:
        return False
    return is_whole(state, 0, count - 1) and is_whole(behind, 0, count - 1)


def steps_of(moves):
    """The state to which each state and letter with a move lead."""
    return {(state, letter): behind for state, letter, behind in moves}


def useful_steps(ends, steps):
    """The steps to states from which some word can still be ended."""
    live = live_states(ends, steps)
    return {key: behind for key, behind in steps.items() if behind in live}


def walked(steps, state, word):
    """The state to which the letters of the word lead, None if some letter has no step."""
    for letter in word:
        if (state, letter) not in steps:
            return None
        state = steps[state, letter]
    return state


def tells(machine, word):
    """Whether the machine tells the word."""
    check_arguments([is_machine(machine), is_word(word)])
    return walked(steps_of(machine[2]), 0, word) in machine[1]


def first_words(machine, limit):
    """The least words that the machine tells, ascending, at most limit."""
    check_arguments([is_machine(machine), is_whole(limit, 0, MOST_TOLD)])
    count, ends, moves = machine
    told = []
    ending = [list(ends)]
    # Any word of count letters or more runs through a loop, which can be left out: so
    # lengths without a word, count in a row, are followed by no word at all.
    while len(ending) <= count * limit and len(told) < limit:
        told.extend(longest_words(moves, ending, limit - len(told)))
        ending.append([state for state, letter, behind in moves if behind in ending[-1]])
    return tuple(told)


def longest_words(moves, ending, many):
    """The first words, at most many, of the length of the last item of ending.

    ending[n] lists the states from which n letters lead to an end.
    """
    found = [("", 0)] if 0 in ending[-1] else []
    for goals in reversed(ending[:-1]):
        found = [
            (word + letter, behind)
            for word, at in found
            for state, letter, behind in moves
            if state == at and behind in goals
        ]
        # Each beginning that is kept leads to a word, so the first ones are enough.
        found = found[:many]
    return [word for word, at in found]


def least_machine(machine):
    """The least machine that tells the same words."""
    check_arguments([is_machine(machine)])
    count, ends, moves = machine
    return reduced(count, ends, steps_of(moves))


def machine_of(words):
    """The least machine that tells just these words."""
    check_arguments([are_words(words, 0, MOST_WORDS)])
    # Along a word each state is another one, otherwise endlessly many words would be told.
    if any([len(word) >= MOST_STATES for word in words]):
        raise TooMany()
    count, ends, steps = tree_of(words)
    machine = reduced(count, ends, steps)
    if machine[0] > MOST_STATES:
        raise TooMany()
    return machine


def tree_of(words):
    """The count, ends and steps of a machine with a state for each beginning of the words."""
    count = 1
    ends = []
    steps = {}
    for word in words:
        state = 0
        for letter in word:
            if (state, letter) not in steps:
                steps[state, letter] = count
                count += 1
            state = steps[state, letter]
        ends.append(state)
    return count, ends, steps


def reduced(count, ends, steps):
    """The least machine for any number of states."""
    useful = useful_steps(ends, steps)
    return numbered(ends, useful, kinds_of(count, ends, useful))


def live_states(ends, steps):
    """The states from which some word can still be ended, as the keys of a dict."""
    live = {state: True for state in ends}
    many = 0
    while many < len(live):
        many = len(live)
        for (state, _), behind in steps.items():
            if behind in live:
                live[state] = True
    return live


def kinds_of(count, ends, steps):
    """For each state the number of its kind: two states are of one kind if they end the same words."""
    kinds = [int(state in ends) for state in range(count)]
    many = 0
    while many < len(set(kinds)):
        many = len(set(kinds))
        kinds = refined(kinds, steps)
    return kinds


def refined(kinds, steps):
    """The kinds, parted further by the kinds to which the letters lead."""
    numbers = {}
    finer = []
    for state, kind in enumerate(kinds):
        ahead = [kinds[steps[state, letter]] if (state, letter) in steps else -1 for letter in LETTERS]
        look = (kind, tuple(ahead))
        finer.append(numbers.setdefault(look, len(numbers)))
    return finer


def numbered(ends, steps, kinds):
    """The machine with one state for each kind, in the order in which they are reached."""
    reached = [0]
    numbers = {kinds[0]: 0}
    moves = []
    at = 0
    while at < len(reached):
        for letter in LETTERS:
            if (reached[at], letter) in steps:
                behind = steps[reached[at], letter]
                if kinds[behind] not in numbers:
                    numbers[kinds[behind]] = len(reached)
                    reached.append(behind)
                moves.append((at, letter, numbers[kinds[behind]]))
        at += 1
    told = [number for number, state in enumerate(reached) if state in ends]
    return (len(reached), tuple(told), tuple(moves))
