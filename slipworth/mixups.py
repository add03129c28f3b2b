"""Mixups: texts that two different words have, and stands that show that there are none."""

from slipworth.checks import LETTERS, check_arguments, is_sequence, is_short, is_triple, is_whole
from slipworth.machines import is_machine, steps_of, useful_steps, walked
from slipworth.meanings import words_for
from slipworth.prices import is_table

GREATEST_MIXUP = 2
MOST_BEYOND = 12
START = ((0, "", 0), (0, "", 0), "", "", False)


def is_told(table, machine, most):
    """Whether there is no mixup up to the price."""
    check_question(table, machine, most)
    return explored(table, machine, most)[1] is None


def stands(table, machine, most):
    """A proof that there is no mixup up to the price, None if there is one."""
    check_question(table, machine, most)
    reached, text = explored(table, machine, most)
    return tuple(reached) if text is None else None


def stands_hold(table, machine, most, value):
    """Whether value is a proof that there is no mixup up to the price."""
    check_question(table, machine, most)
    if not is_sequence(value) or not all([is_stand(part, machine[0], most) for part in value]):
        return False
    given = [(tuple(one), tuple(other), ahead, behind, apart) for one, other, ahead, behind, apart in value]
    if START not in given or len(set(given)) < len(given):
        return False
    known = {either_way(stand): True for stand in given}
    runs = Runs(table, machine, most)
    for stand in known:
        if is_end(stand, machine[1]) or not runs.stay_in(stand, known):
            return False
    return True


def mixup(table, machine, most):
    """The least mixup (text, one, other, first, second) up to the price, None if there is none."""
    check_question(table, machine, most)
    text = explored(table, machine, most)[1]
    if text is None:
        return None
    (one, first), (other, second) = words_for(table, machine, text, most, 2)
    return (text, one, other, first, second)


def strength(table, machine, limit):
    """The greatest price of at most limit for which there is no mixup."""
    check_question(table, machine, limit)
    for most in range(1, limit + 1):
        if explored(table, machine, most)[1] is not None:
            return most - 1
    return limit


def check_question(table, machine, most):
    """Refuse what is no table, no machine or no price."""
    check_arguments([is_table(table), is_machine(machine), is_whole(most, 0, GREATEST_MIXUP)])


def is_stand(value, count, most):
    """Whether value is a stand of a machine with so many states, up to the price."""
    if not is_sequence(value) or len(value) != 5:
        return False
    one, other, ahead, behind, apart = value
    if not is_run(one, count, most) or not is_run(other, count, most) or not isinstance(apart, bool):
        return False
    if not is_short(ahead, MOST_BEYOND) or not is_short(behind, MOST_BEYOND):
        return False
    return ahead == behind == "" if apart else "" in (ahead, behind)


def is_run(value, count, most):
    """Whether value is a run of a machine with so many states, up to the price."""
    if not is_triple(value):
        return False
    state, rest, total = value
    return is_whole(state, 0, count - 1) and is_short(rest, 1) and is_whole(total, 0, most)


def is_end(stand, ends):
    """Whether two different words have been ended on one text."""
    one, other, ahead, behind, apart = stand
    if one[1] or other[1] or not (apart or ahead or behind):
        return False
    return one[0] in ends and other[0] in ends


def either_way(stand):
    """The stand or the one with its runs exchanged, the same one for both."""
    one, other, ahead, behind, apart = stand
    return min(stand, (other, one, behind, ahead, apart))


def explored(table, machine, most):
    """The stands that runs come to, up to an exchange of their runs, and the least text of a mixup.

    Without a mixup the text is None; otherwise the stands are only those met before.
    Texts are taken up in their order, each with the stands that no earlier one leads to:
    whatever is typed behind a stand makes the least text behind the first one that leads there.
    So faults with nothing typed are taken before the next text is begun.
    """
    runs = Runs(table, machine, most)
    reached = {START: True}
    level = [("", settled(runs, [START], reached))]
    while level:
        longer = []
        for text, group in level:
            if any([is_end(stand, machine[1]) for stand in group]):
                return reached, text
            for letter in LETTERS:
                found = runs.new_ones(group, letter, reached)
                if found:
                    longer.append((text + letter, settled(runs, found, reached)))
        level = longer
    return reached, None


def settled(runs, group, reached):
    """The stands of the group and the new ones that they lead to while nothing is typed."""
    found = list(group)
    while group:
        group = runs.new_ones(group, "", reached)
        found.extend(group)
    return found


class Runs:
    """The steps that runs can take, each worked out once."""

    def __init__(self, table, machine, most):
        self.table = table
        self.most = most
        self.steps = useful_steps(machine[1], steps_of(machine[2]))
        self.single = {}
        self.paired = {}

    def ways(self, run, letter):
        """The pairs (meant, run behind it) for a run while the letter, or nothing for "", is typed."""
        if (run, letter) not in self.single:
            self.single[run, letter] = self.rest_ways(run, letter) if run[1] else self.piece_ways(run, letter)
        return self.single[run, letter]

    def rest_ways(self, run, letter):
        """The same for a run with a rest."""
        state, rest, total = run
        return [("", (state, "", total))] if rest == letter else []

    def piece_ways(self, run, letter):
        """The same for a run without a rest: a letter kept, or a fault."""
        state, _, total = run
        kept = [(letter, letter, 0)] if letter else []
        found = []
        for meant, written, cost in kept + list(self.table):
            behind = walked(self.steps, state, meant)
            if written[:1] == letter and total + cost <= self.most and behind is not None:
                found.append((meant, (behind, written[1:], total + cost)))
        return found

    def pair_ways(self, one, other):
        """For each letter, and "" for nothing, what two runs mean while it is typed, and the runs behind it."""
        if (one, other) not in self.paired:
            rows = {"": [(meant, "", run, other) for meant, run in self.ways(one, "")]}
            rows[""].extend([("", meant, one, run) for meant, run in self.ways(other, "")])
            for letter in LETTERS:
                rows[letter] = [
                    (meant, beside, run, second)
                    for meant, run in self.ways(one, letter)
                    for beside, second in self.ways(other, letter)
                ]
            self.paired[one, other] = rows
        return self.paired[one, other]

    def led_to(self, stand, letter):
        """The stands, either way, to which one stand leads while the letter, or nothing for "", is typed."""
        one, other, ahead, behind, apart = stand
        found = []
        for meant, beside, run, second in self.pair_ways(one, other)[letter]:
            found.append(either_way((run, second) + compared(ahead + meant, behind + beside, apart)))
        return found

    def new_ones(self, group, letter, reached):
        """The stands not yet reached to which the group leads; from now on they are reached."""
        found = []
        for stand in group:
            for behind in self.led_to(stand, letter):
                if behind not in reached:
                    reached[behind] = True
                    found.append(behind)
        return found

    def stay_in(self, stand, known):
        """Whether every step from the stand leads to one of those known."""
        for letter in ("",) + tuple(LETTERS):
            if not all([behind in known for behind in self.led_to(stand, letter)]):
                return False
        return True


def compared(ahead, behind, apart):
    """What is known of two words that go on with these letters: what each has beyond the other, whether apart."""
    if apart:
        return ("", "", True)
    if ahead.startswith(behind):
        return (ahead[len(behind):], "", False)
    if behind.startswith(ahead):
        return ("", behind[len(ahead):], False)
    return ("", "", True)
