"""[25] to [28] and [1] to [4]: mixups, told words, stands that show them, strength."""

import itertools
import random
import unittest

from slipworth.machines import first_words, least_machine, machine_of, tells
from slipworth.meanings import meant
from slipworth.mixups import is_told, mixup, stands, stands_hold, strength
from slipworth.prices import price
from slipworth.tables import least_table
from tests.helper import NOTHINGS, forms, in_turn, nested, refused_at, run
from tests.test_machines import any_machine, renumbered, words_up_to
from tests.test_meanings import all_words
from tests.test_prices import any_table

TABLE = (("", "a", 2), ("a", "", 2), ("a", "b", 4), ("ab", "ba", 1))
MACHINE = (3, (2,), ((0, "a", 1), (1, "b", 2), (2, "a", 2)))
ALL_WORDS = (1, (0,), tuple((0, letter, 0) for letter in "abcdef"))
START = ((0, "", 0), (0, "", 0), "", "", False)
# No step leads from here: the runs have no letter that both can type.
HALTED = ((0, "c", 0), (0, "d", 0), "", "", False)

# The least mixups of these are long, and so are their words.
LONG = (
    ((("bd", "df", 1), ("cb", "fa", 1), ("dc", "ef", 1), ("de", "bb", 1), ("eb", "cc", 1), ("ec", "bb", 1),
      ("ed", "ec", 1), ("fb", "a", 2)),
     (8, (6,), (
         (0, "c", 4), (0, "f", 6), (1, "b", 7), (1, "f", 1), (2, "b", 2), (2, "c", 3), (2, "e", 3), (2, "f", 4),
         (3, "e", 1), (3, "f", 3), (4, "f", 5), (5, "a", 2), (5, "d", 4), (5, "f", 0), (6, "a", 0), (6, "b", 0),
         (6, "c", 0), (6, "e", 4), (7, "a", 1), (7, "d", 2), (7, "e", 7), (7, "f", 7)))),
    ((("", "cb", 2), ("a", "bc", 1), ("bd", "ed", 1), ("cb", "ca", 2), ("ce", "ef", 1), ("ce", "f", 1), ("ec", "eb", 2),
      ("ff", "db", 1)),
     (8, (5,), (
         (0, "d", 0), (0, "e", 1), (1, "a", 3), (1, "d", 6), (2, "d", 5), (2, "e", 2), (2, "f", 7), (3, "a", 0),
         (3, "f", 3), (4, "a", 1), (4, "b", 3), (4, "d", 2), (5, "a", 4), (5, "c", 5), (5, "f", 1), (6, "c", 1),
         (6, "d", 7), (6, "e", 6), (7, "b", 0), (7, "c", 3), (7, "d", 4), (7, "e", 3)))),
)
# Very many stands, most of them not apart.
MANY = (
    (("", "aa", 1), ("", "ce", 1), ("", "df", 1), ("", "ee", 1), ("ba", "", 1), ("bf", "", 1), ("c", "cb", 1),
     ("ef", "", 1)),
    (8, (1,), (
        (0, "a", 2), (0, "b", 6), (0, "c", 5), (0, "d", 7), (0, "f", 2), (1, "a", 5), (1, "b", 4), (1, "c", 4),
        (1, "d", 7), (1, "e", 3), (1, "f", 3), (2, "a", 7), (2, "b", 7), (2, "c", 2), (2, "d", 2), (2, "e", 2),
        (2, "f", 3), (3, "a", 2), (3, "b", 3), (3, "c", 7), (3, "d", 6), (3, "e", 3), (3, "f", 2), (4, "a", 6),
        (4, "b", 2), (4, "c", 3), (4, "d", 7), (4, "e", 0), (4, "f", 2), (5, "a", 3), (5, "b", 4), (5, "c", 1),
        (5, "d", 1), (5, "e", 7), (6, "a", 2), (6, "b", 2), (6, "c", 6), (6, "d", 4), (6, "e", 6), (6, "f", 7),
        (7, "a", 2), (7, "b", 3), (7, "c", 3), (7, "d", 7), (7, "e", 7), (7, "f", 2))),
)
# The most stands of told words that were found.
TOLD = (
    (("", "af", 1), ("", "fc", 1), ("a", "aa", 1), ("bd", "ad", 1), ("be", "ab", 1), ("d", "db", 1), ("e", "ac", 1),
     ("ed", "ae", 1)),
    (8, (0, 2), (
        (0, "a", 7), (0, "b", 3), (0, "d", 3), (0, "e", 5), (0, "f", 3), (1, "b", 7), (1, "e", 7), (1, "f", 6),
        (2, "a", 6), (2, "b", 4), (2, "d", 6), (2, "e", 2), (2, "f", 0), (3, "b", 1), (3, "d", 4), (3, "e", 3),
        (3, "f", 1), (4, "c", 6), (4, "d", 7), (4, "e", 0), (5, "a", 4), (5, "b", 0), (5, "d", 5), (5, "e", 4),
        (5, "f", 2), (6, "b", 5), (7, "b", 6), (7, "e", 1))),
)


class Reading:
    """The stands and their steps, read off [26] sentence by sentence."""

    def __init__(self, table, machine, most):
        self.table, self.most = table, most
        self.count, self.ends, moves = machine
        self.moves = {(state, letter): behind for state, letter, behind in moves}
        self.live = set(self.ends)
        for _ in range(self.count):
            self.live |= {state for state, letter, behind in moves if behind in self.live}

    def along(self, state, word):
        for letter in word:
            state = self.moves.get((state, letter))
            if state not in self.live:
                return None
        return state

    def typing(self, run, letter):
        """What a run means, and the run behind it, if the letter is typed."""
        state, rest, total = run
        if rest:
            if rest.startswith(letter):
                yield "", (state, rest[1:], total)
            return
        if self.along(state, letter) is not None:
            yield letter, (self.along(state, letter), "", total)
        for meaning, written, cost in self.table:
            behind = self.along(state, meaning)
            if written.startswith(letter) and total + cost <= self.most and behind is not None:
                yield meaning, (behind, written[1:], total + cost)

    def leaving_out(self, run):
        """What a run without a rest means, and the run behind it, if nothing is typed."""
        state, rest, total = run
        for meaning, written, cost in self.table:
            behind = self.along(state, meaning)
            if not rest and not written and total + cost <= self.most and behind is not None:
                yield meaning, (behind, "", total + cost)

    def steps(self, stand):
        """The letter typed and the stand behind it, for every step."""
        one, other, ahead, behind, apart = stand
        for letter in "abcdef":
            for meaning, run_one in self.typing(one, letter):
                for beside, run_other in self.typing(other, letter):
                    yield letter, (run_one, run_other) + known(ahead + meaning, behind + beside, apart)
        for meaning, run_one in self.leaving_out(one):
            yield "", (run_one, other) + known(ahead + meaning, behind, apart)
        for beside, run_other in self.leaving_out(other):
            yield "", (one, run_other) + known(ahead, behind + beside, apart)

    def is_end(self, stand):
        one, other, ahead, behind, apart = stand
        return one[1] == other[1] == "" and {one[0], other[0]} <= set(self.ends) and bool(apart or ahead or behind)

    def is_proof(self, value):
        """Whether a sequence of stands, which are tuples, is a proof."""
        if len(set(value)) != len(value) or START not in value or any(map(self.is_end, value)):
            return False
        either = set(value) | set(map(turned, value))
        return all(behind in either for stand in value for _, behind in self.steps(stand))

    def reached(self, start=START):
        """All stands to which steps from this one lead, with itself, none exchanged."""
        found = {start: True}
        queue = [start]
        for stand in queue:
            for _, behind in self.steps(stand):
                if behind not in found:
                    found[behind] = True
                    queue.append(behind)
        return list(found)

    def has_mixup(self):
        return any(map(self.is_end, self.reached()))

    def least_text(self):
        """The least text behind which some stand is an end: text by text, each with all of its stands."""
        seen = set()
        queue = [("", self.settled([START]))]
        for text, group in queue:
            if any(map(self.is_end, group)):
                return text
            if group not in seen:
                seen.add(group)
                after = {letter: [] for letter in "abcdef"}
                for stand in group:
                    for letter, behind in self.steps(stand):
                        after.get(letter, []).append(behind)
                queue += [(text + letter, self.settled(after[letter])) for letter in "abcdef" if after[letter]]
        return None

    def settled(self, group):
        """The stands with those behind them when nothing more is typed."""
        found = list(dict.fromkeys(group))
        for stand in found:
            found += {behind: 1 for letter, behind in self.steps(stand) if not letter and behind not in found}
        return frozenset(found)


def known(ahead, behind, apart):
    """What is known of two words that go on with these letters behind what they share."""
    while ahead and behind and ahead[0] == behind[0] and not apart:
        ahead, behind = ahead[1:], behind[1:]
    return ("", "", True) if apart or (ahead and behind) else (ahead, behind, False)


def turned(stand):
    one, other, ahead, behind, apart = stand
    return (other, one, behind, ahead, apart)


def least_mixup(table, machine, most, length):
    """The least mixup with a text of at most this length, by the words of [25] and [27]."""
    for text in words_up_to(length, "abcdef" if uses(table, machine, "cdef") else "ab"):
        rows = all_words(table, machine, text, most)
        if len(rows) > 1:
            (one, first), (other, second) = rows[:2]
            return (text, one, other, first, second)
    return None


def uses(table, machine, letters):
    return any(letter in repr((table, machine)) for letter in letters)


class Checked(unittest.TestCase):
    """The answers of the module against one another, against prices and against the reading of [26]."""

    def check_mixup(self, table, machine, most, found):
        text, one, other, first, second = found
        self.assertNotEqual(one, other)
        self.assertLessEqual((first, len(one), one), (second, len(other), other))
        self.assertLessEqual(second, most)
        for word, cost in ((one, first), (other, second)):
            self.assertIs(tells(machine, word), True)
            self.assertEqual(price(table, word, text), cost)
        self.assertEqual(all_words(table, machine, text, most)[:2], ((one, first), (other, second)))
        if len(text) <= 6:
            words = meant(table, machine, text, most)
            self.assertEqual((words[0], words[1][0]), (first, one))

    def check(self, table, machine, most):
        """Check all answers up to this price; the mixup is returned."""
        reading = Reading(table, machine, most)
        found = run(mixup, table, machine, most)
        proof = run(stands, table, machine, most)
        self.assertIs(run(is_told, table, machine, most), found is None)
        self.assertEqual(run(strength, table, machine, most) == most, found is None)
        self.assertIs(reading.has_mixup(), found is not None)
        if found is None:
            self.assertTrue(reading.is_proof(proof))
            self.assertIs(run(stands_hold, table, machine, most, proof), True)
        else:
            self.assertIsNone(proof)
            self.check_mixup(table, machine, most, found)
            self.assertIs(run(stands_hold, table, machine, most, tuple(reading.reached())), False)
        return found


class Told(Checked):
    def test_the_table_of_the_overview(self):
        self.assertIs(run(is_told, TABLE, MACHINE, 0), True)
        self.assertIs(run(is_told, TABLE, MACHINE, 1), True)
        self.assertIs(run(is_told, TABLE, MACHINE, 2), False)
        for most in range(3):
            self.check(TABLE, MACHINE, most)

    def test_prices_zero_two_and_three(self):
        for function in (is_told, stands, mixup, strength):
            for most, at in ((-1, 2), (0, None), (2, None), (3, 2)):
                self.assertEqual(refused_at(function, TABLE, MACHINE, most), at)
        for most, at in ((-1, 2), (0, None), (2, None), (3, 2)):
            self.assertEqual(refused_at(stands_hold, TABLE, MACHINE, most, ()), at)

    def test_without_a_fault_and_without_a_price_words_are_told(self):
        for machine in (MACHINE, ALL_WORDS, machine_of(["a", "b", ""]), (1, (), ())):
            for most in range(3):
                self.assertIsNone(self.check((), machine, most))
            self.assertIsNone(self.check(TABLE, machine, 0))

    def test_machines_with_no_word_with_one_and_with_endlessly_many(self):
        chance = random.Random(25)
        for _ in range(60):
            table = any_table(chance, "ab", 2)
            for machine in (
                    (1, (), ()), (1, (), ((0, "a", 0), (0, "b", 0))), (2, (1,), ((0, "a", 0), (1, "a", 0))),
                    (8, (), tuple((state, "a", (state + 1) % 8) for state in range(8))), machine_of(["abba"]),
                    machine_of([""])):
                self.assertIsNone(self.check(table, machine, 2))
            for machine in (ALL_WORDS, (2, (0, 1), ((0, "a", 1), (1, "b", 0)))):
                self.check(table, machine, 2)

    def test_many_small_tables_and_machines(self):
        chance = random.Random(26)
        told = 0
        for _ in range(1500):
            letters = chance.choice(("ab", "abc"))
            table, machine = any_table(chance, letters, 3), any_machine(chance, chance.randint(1, 4), letters)
            told += self.check(table, machine, chance.randint(1, 2)) is None
        self.assertTrue(200 < told < 1300)

    def test_tables_and_machines_at_the_bounds(self):
        chance = random.Random(27)
        told = 0
        for _ in range(150):
            table, machine = any_table(chance, "abcdef", 2), any_machine(chance, 8, chance.choice(("abc", "abcdef")))
            machine = (8, machine[1][:1], machine[2])
            told += self.check(table, machine, 2) is None
        self.assertTrue(20 < told < 130)

    def test_eight_faults_and_nine(self):
        nine = tuple(("", one + other, 1) for one in "abc" for other in "def")
        machine = (8, (0,), tuple((state, "a", (state + 1) % 8) for state in range(8)))
        self.assertIsNone(self.check(nine[:8], machine, 2))
        for function in (is_told, stands, mixup, strength):
            self.assertEqual(refused_at(function, nine, machine, 2), 0)

    def test_letters_that_only_the_table_or_only_the_machine_has(self):
        machine = machine_of(["ab", "cb"])
        self.assertIsNone(self.check((("d", "", 1), ("e", "a", 1), ("f", "a", 1)), machine, 2))
        self.assertEqual(self.check((("a", "e", 1), ("c", "e", 1)), machine, 2), ("eb", "ab", "cb", 1, 1))
        self.assertEqual(
            self.check((("", "f", 1), ("a", "ef", 2), ("c", "e", 1)), machine, 2), ("efb", "ab", "cb", 2, 2))


class Proofs(unittest.TestCase):
    """stands_hold, on proofs and on what is nearly one."""

    def cases(self):
        chance = random.Random(28)
        yield TABLE, MACHINE, 1
        yield (), MACHINE, 2
        yield (("", "b", 1), ("a", "", 1)), (3, (0,), ((0, "a", 1), (1, "a", 2), (2, "a", 0))), 1
        many = 0
        while many < 12:
            table, machine = any_table(chance, "abc", 2), any_machine(chance, 4, "abc")
            proof = stands(table, machine, 2)
            if proof is not None and 8 <= len(proof) <= 60:
                many += 1
                yield table, machine, 2

    def test_each_stand_left_out_in_turn(self):
        for table, machine, most in self.cases():
            reading = Reading(table, machine, most)
            proof = run(stands, table, machine, most)
            self.assertIs(run(stands_hold, table, machine, most, proof), True)
            for at in range(len(proof)):
                value = proof[:at] + proof[at + 1:]
                self.assertIs(run(stands_hold, table, machine, most, value), reading.is_proof(value))
            for at in range(1, len(proof)):
                self.assertIs(run(stands_hold, table, machine, most, proof[at:]), False)
            self.assertIs(run(stands_hold, table, machine, most, ()), False)

    def test_only_what_is_needed_is_told_by_the_least_proof(self):
        # Without an exchange every stand that is reached is needed, so each one matters.
        for table, machine, most in self.cases():
            whole = tuple(Reading(table, machine, most).reached())
            self.assertIs(run(stands_hold, table, machine, most, whole), True)
            for at, stand in enumerate(whole):
                value = whole[:at] + whole[at + 1:]
                expected = stand != START and turned(stand) in value
                self.assertIs(run(stands_hold, table, machine, most, value), expected)
                value = tuple(other for other in value if other != turned(stand))
                self.assertIs(run(stands_hold, table, machine, most, value), False)

    def test_stands_in_another_sequence_exchanged_and_twice(self):
        chance = random.Random(29)
        for table, machine, most in self.cases():
            proof = list(run(stands, table, machine, most))
            mixed = chance.sample(proof, len(proof))
            self.assertIs(run(stands_hold, table, machine, most, mixed), True)
            self.assertIs(run(stands_hold, table, machine, most, mixed[::-1]), True)
            self.assertIs(run(stands_hold, table, machine, most, list(map(turned, proof))), True)
            some = [turned(stand) if chance.random() < 0.5 else stand for stand in mixed]
            self.assertIs(run(stands_hold, table, machine, most, some), True)
            both = list(dict.fromkeys(proof + list(map(turned, proof))))
            self.assertIs(run(stands_hold, table, machine, most, both), True)
            for stand in proof:
                self.assertIs(run(stands_hold, table, machine, most, proof + [stand]), False)
                self.assertIs(run(stands_hold, table, machine, most, proof + [in_turn(stand)]), False)
                self.assertIs(run(stands_hold, table, machine, most, [stand] + proof), False)

    def test_lists_for_tuples_at_every_level(self):
        for table, machine, most in self.cases():
            proof = run(stands, table, machine, most)
            for value in forms(proof):
                self.assertIs(run(stands_hold, table, machine, most, value), True)
            for value in forms(proof[:-1]) + forms(proof + proof[-1:]):
                self.assertIs(run(stands_hold, table, machine, most, value), Reading(table, machine, most).is_proof(
                    tuple(map(as_stand, value))))

    def test_stands_spoilt_in_any_part(self):
        for table, machine, most in self.cases():
            reading = Reading(table, machine, most)
            proof = run(stands, table, machine, most)
            for at, stand in enumerate(proof[:12]):
                for spoilt in spoilt_stands(stand, machine[0], most):
                    value = proof[:at] + (spoilt,) + proof[at + 1:]
                    self.assertIs(run(stands_hold, table, machine, most, value), reading.is_proof(value))
                    value = proof + (spoilt,)
                    self.assertIs(run(stands_hold, table, machine, most, value), reading.is_proof(value))

    def test_what_is_no_stand(self):
        proof = run(stands, TABLE, MACHINE, 1)
        for right in (HALTED, HALTED[:4] + (True,), HALTED[:2] + ("a" * 12, "", False), HALTED[:3] + ("abcdef", False)):
            for value in forms(proof + (right,)):
                self.assertIs(run(stands_hold, TABLE, MACHINE, 1, value), True)
        for wrong in no_stands(MACHINE[0], 1):
            with self.subTest(stand=repr(wrong)[:80]):
                for value in forms(proof + (wrong,)):
                    self.assertIs(run(stands_hold, TABLE, MACHINE, 1, value), False)
                self.assertIs(run(stands_hold, TABLE, MACHINE, 1, (wrong,) + proof), False)
                self.assertIs(run(stands_hold, TABLE, MACHINE, 1, proof[1:] + (wrong,)), False)
                self.assertIs(run(stands_hold, TABLE, MACHINE, 1, wrong), False)

    def test_what_is_no_sequence_of_stands(self):
        for wrong in NOTHINGS + (
                0, 1, "", "a", START, (), [], (START, None), "START", [[]], ((),), nested(19, START), TABLE, MACHINE,
                (TABLE, MACHINE), {"a": 1}.get("b"), [0] * 5000, ["a" * 5000], [START] * 2, [[START]]):
            for table, machine in ((TABLE, MACHINE), (TABLE, machine_of(["a", "b"]))):
                for value in forms(wrong) + (wrong,):
                    self.assertIs(run(stands_hold, table, machine, 2, value), False)
        # Here the start alone is a proof, as no step leads from it.
        for most in range(3):
            self.assertIs(run(stands_hold, (), machine_of([]), most, (START,)), True)
            self.assertIs(run(stands_hold, (), machine_of([]), most, [in_turn(START)]), True)
            self.assertIs(run(stands_hold, (), machine_of([]), most, (START, START)), False)
            self.assertIs(run(stands_hold, (), machine_of([]), most, START), False)
            self.assertIs(run(stands_hold, (), machine_of([]), most, ()), False)

    def test_stands_put_in_without_need(self):
        chance = random.Random(30)
        seen = [0, 0]
        for table, machine, most in self.cases():
            reading = Reading(table, machine, most)
            proof = run(stands, table, machine, most)
            for _ in range(40):
                extra = any_stand(chance, machine[0], most)
                value = tuple(dict.fromkeys(proof + (extra,)))
                self.assertIs(run(stands_hold, table, machine, most, value), reading.is_proof(value))
                if max(len(extra[2]), len(extra[3])) <= 4:
                    value = tuple(dict.fromkeys(proof + tuple(reading.reached(extra))))
                    if all(len(stand[2] + stand[3]) <= 12 for stand in value):
                        seen[run(stands_hold, table, machine, most, value)] += 1
                        self.assertIs(run(stands_hold, table, machine, most, value), reading.is_proof(value))
        self.assertTrue(min(seen) > 50)

    def test_what_is_ahead_or_behind_may_have_twelve_letters(self):
        table = (("ab", "", 1),)
        proof = run(stands, table, MACHINE, 0)
        for many, holds in ((11, True), (12, True), (13, False)):
            # No letter of the machine is c, so no step leads from here.
            far = ((1, "c", 0), (2, "", 0), "a" * many, "", False)
            self.assertIs(run(stands_hold, table, MACHINE, 0, proof + (far,)), holds)
            self.assertIs(run(stands_hold, table, MACHINE, 0, proof + (turned(far),)), holds)
        # The step that leaves out ab leads to thirteen letters, which are no stand.
        more = ((0, "", 0), (0, "c", 0), "a" * 11, "", False)
        behind = ((2, "", 1), (0, "c", 0), "a" * 11 + "ab", "", False)
        self.assertIs(run(stands_hold, table, MACHINE, 1, run(stands, table, MACHINE, 1) + (more, behind)), False)
        less = ((0, "", 0), (0, "c", 0), "a" * 10, "", False)
        behind = ((2, "", 1), (0, "c", 0), "a" * 10 + "ab", "", False)
        self.assertIs(run(stands_hold, table, MACHINE, 1, run(stands, table, MACHINE, 1) + (less, behind)), True)
        self.assertIs(run(stands_hold, table, MACHINE, 1, run(stands, table, MACHINE, 1) + (less,)), False)

    def test_states_from_which_no_word_can_be_ended(self):
        machine = (3, (1,), ((0, "a", 1), (0, "b", 2), (2, "a", 2)))
        table = (("", "c", 1), ("b", "c", 1), ("bb", "", 1))
        reading = Reading(table, machine, 2)
        proof = run(stands, table, machine, 2)
        self.assertTrue(reading.is_proof(proof))
        dead = tuple(reading.reached(((2, "", 0), (2, "", 0), "", "", True)))
        # A fault that means nothing is taken there, too, by both runs; no other step leads on.
        self.assertEqual([stand[0][::2] + stand[1][::2] for stand in dead], [(2, 0, 2, 0), (2, 1, 2, 1), (2, 2, 2, 2)])
        self.assertIs(run(stands_hold, table, machine, 2, proof + dead), True)
        self.assertIs(run(stands_hold, table, machine, 2, proof + dead[:2]), False)
        self.assertIs(run(stands_hold, table, machine, 2, proof + dead[:1]), False)
        self.assertIs(run(stands_hold, table, machine, 2, proof + dead[1:]), True)
        # The same where the machine tells no word at all: the start is such a state.
        for machine in ((1, (), ((0, "a", 0),)), (2, (1,), ((0, "a", 0), (1, "a", 1)))):
            table = (("", "c", 1), ("a", "", 1), ("a", "c", 1), ("b", "", 1))
            start = tuple(((0, "", total), (0, "", total), "", "", False) for total in range(3))
            self.assertEqual(sorted(run(stands, table, machine, 2)), sorted(start))
            self.assertIs(run(stands_hold, table, machine, 2, start), True)
            self.assertIs(run(stands_hold, table, machine, 2, start[:2]), False)
            self.assertIs(run(stands_hold, table, machine, 1, start[:2]), True)
            self.assertIs(run(stands_hold, table, machine, 1, start), False)

    def test_a_rest_is_typed_before_anything_else(self):
        machine = machine_of(["a"])
        table = (("", "cd", 1), ("a", "", 1))
        proof = run(stands, table, machine, 2)
        # The run with a rest cannot leave out a; the other one may put in cd, if it can type d at the same time.
        rest = ((0, "d", 1), (0, "", 1), "", "", True)
        behind = ((0, "d", 1), (1, "", 2), "", "", True)
        self.assertEqual(list(Reading(table, machine, 2).steps(rest)), [("", behind)])
        self.assertIs(run(stands_hold, table, machine, 2, proof + (rest,)), False)
        self.assertIs(run(stands_hold, table, machine, 2, proof + (rest, behind)), True)

    def test_with_many_more_stands_than_a_proof_needs(self):
        table, machine = (("a", "b", 1),), (8, (7,), tuple((state, "a", state + 1) for state in range(7)))
        proof = run(stands, table, machine, 2)
        runs = list(itertools.product(range(8), "cdef", range(3)))
        # No letter is typed by both runs of these.
        more = tuple(
            (one, other, beyond, "", False) for one, other in itertools.product(runs, repeat=2) if one[1] != other[1]
            for beyond in ("", "a", "ba", "fedcbafedcba"))
        self.assertGreater(len(more), 20000)
        self.assertIs(stands_hold(table, machine, 2, proof + more), True)
        self.assertIs(stands_hold(table, machine, 2, more + proof), True)
        self.assertIs(stands_hold(table, machine, 2, more), False)
        self.assertIs(stands_hold(table, machine, 2, proof + more + more[:1]), False)
        self.assertIs(stands_hold(table, machine, 2, proof[1:] + more), False)


def as_stand(value):
    """The stand with tuples for lists."""
    return tuple(tuple(part) if isinstance(part, list) else part for part in value)


def spoilt_stands(stand, count, most):
    """Stands that differ from this one in one part."""
    one, other, ahead, behind, apart = stand
    for side in range(2):
        state, rest, total = stand[side]
        for run_ in (
                ((state + 1) % count, rest, total), (state, rest, (total + 1) % (most + 1)),
                (state, "a" if rest != "a" else "b", total), (state, "", total)):
            if run_ != stand[side]:
                yield stand[:side] + (run_,) + stand[side + 1:]
    if not apart:
        yield (one, other, ahead + "b", "", False)
        yield (one, other, "", behind + "a", False)
        yield (one, other, "", "", True)
        if ahead or behind:
            yield (one, other, behind, ahead, False)
            yield (one, other, ahead[1:], behind[1:], False)
    else:
        yield (one, other, "", "", False)
        yield (one, other, "a", "", False)


def any_stand(chance, count, most):
    runs = [
        (chance.randrange(count), chance.choice(("", "", "a", "b", "c", "f")), chance.randint(0, most))
        for _ in range(2)]
    beyond = "".join(chance.choice("abc") for _ in range(chance.choice((0, 0, 1, 2, 3, 12))))
    knows = chance.choice((("", "", True), (beyond, "", False), ("", beyond, False)))
    return tuple(runs) + knows


def no_stands(count, most):
    """Values that have not the form of a stand, though no step leads from them."""
    one, other = HALTED[:2]
    for wrong in NOTHINGS + (
            0, "", "a", (), [], (0, ""), (0, "c", 0, 0), (count, "c", 0), (-1, "c", 0), (True, "c", 0), ("0", "c", 0),
            (None, "c", 0), (0, "cc", 0), (0, "g", 0), (0, 0, 0), (0, None, 0), (0, ("c",), 0), (0, (), 0),
            (0, "c", most + 1), (0, "c", -1), (0, "c", False), (0, "c", True), (0, "c", None), (0, "c", "0"),
            (0, "c", "")):
        yield (wrong, other, "", "", False)
        yield (other, wrong, "", "", False)
    for wrong in NOTHINGS + (0, (), [], ("a",), "g", "a" * 13, "A", "a\n", "a b"):
        yield (one, other, wrong, "", False)
        yield (one, other, "", wrong, False)
        yield (one, other, wrong, "", True)
    for wrong in (None, 0, 1, "", "True", (), (True,), -1, 10 ** 30):
        yield (one, other, "", "", wrong)
    yield (one, other, "a", "b", False)
    yield (one, other, "a", "a", False)
    yield (one, other, "a", "", True)
    yield (one, other, "", "a", True)
    yield (one, other, "a", "a", True)
    yield (one, other, "", "")
    yield (one, other, "", "", False, False)
    yield (one, other)
    yield one
    yield "stand"
    yield from NOTHINGS


class Mixup(Checked):
    def test_the_table_of_the_overview(self):
        self.assertEqual(run(mixup, TABLE, MACHINE, 2), ("ab", "ab", "aba", 0, 2))
        self.assertIsNone(run(mixup, TABLE, MACHINE, 1))
        self.assertIsNone(run(mixup, TABLE, MACHINE, 0))

    def test_the_empty_text_and_the_empty_word(self):
        table = (("a", "", 1), ("b", "", 1), ("c", "", 2))
        self.assertEqual(self.check(table, machine_of(["b", "a"]), 1), ("", "a", "b", 1, 1))
        self.assertEqual(self.check(table, machine_of(["c", "b"]), 2), ("", "b", "c", 1, 2))
        self.assertIsNone(self.check(table, machine_of(["c", "b"]), 1))
        self.assertEqual(self.check(table, machine_of(["", "a"]), 1), ("", "", "a", 0, 1))
        self.assertEqual(self.check((("", "a", 1),), machine_of(["", "a"]), 1), ("a", "a", "", 0, 1))
        self.assertEqual(self.check((("", "a", 1), ("", "b", 1)), machine_of(["", "ab"]), 2), ("ab", "ab", "", 0, 2))

    def test_the_first_two_words_by_price_then_by_length_then_by_letters(self):
        table = (("a", "f", 2), ("aa", "f", 1), ("ab", "f", 2), ("b", "f", 2), ("c", "f", 1), ("d", "f", 1))
        words = ["a", "aa", "ab", "b", "c", "d", "f"]
        self.assertEqual(self.check(table, machine_of(words), 2), ("f", "f", "c", 0, 1))
        self.assertEqual(self.check(table, machine_of(words[:-1]), 2), ("f", "c", "d", 1, 1))
        self.assertEqual(self.check(table, machine_of(words[:-2]), 2), ("f", "c", "aa", 1, 1))
        self.assertEqual(self.check(table, machine_of(words[:-3]), 2), ("f", "aa", "a", 1, 2))
        self.assertEqual(self.check(table, machine_of(words[2:-3]), 2), ("f", "b", "ab", 2, 2))
        self.assertEqual(self.check(table, machine_of(["a", "b"]), 2), ("f", "a", "b", 2, 2))
        self.assertIsNone(self.check(table, machine_of(["a", "b"]), 1))

    def test_the_least_text_by_length_then_by_letters(self):
        table = (("a", "f", 1), ("a", "fc", 1), ("b", "ce", 1), ("b", "f", 2), ("b", "fc", 1), ("c", "ce", 1))
        machine = machine_of(["a", "b", "c"])
        self.assertEqual(self.check(table, machine, 2), ("f", "a", "b", 1, 2))
        self.assertEqual(self.check(table, machine, 1), ("ce", "b", "c", 1, 1))
        self.assertEqual(self.check(table, machine_of(["a", "b"]), 1), ("fc", "a", "b", 1, 1))

    def test_a_shorter_text_of_faults_with_nothing_typed_comes_first(self):
        # Behind a longer text, or a later one, the same stands are met by letters typed.
        odd = (2, (0,), ((0, "a", 1), (0, "b", 0), (1, "a", 0), (1, "b", 1)))
        for table, machine, most, expected in (
                ((("ab", "", 1),), (2, (1,), ((0, "a", 0), (0, "b", 1), (1, "a", 0))), 1, ("b", "b", "bab", 0, 1)),
                ((("ab", "", 2),), (2, (1,), odd[2]), 2, ("b", "abb", "bab", 2, 2)),
                ((("bb", "", 2),), (2, (1,), ((0, "a", 1), (0, "b", 1), (1, "a", 0), (1, "b", 1))), 2,
                 ("a", "a", "abb", 0, 2)),
                ((("a", "", 2),), odd, 2, ("ab", "aab", "aba", 2, 2)),
                ((("", "b", 1), ("a", "", 1), ("bb", "aa", 2)), (2, (1,), ((0, "a", 1), (0, "b", 0), (1, "b", 0))), 1,
                 ("ab", "a", "aba", 1, 1)),
                ((("a", "", 1), ("a", "ab", 2), ("a", "b", 1)), (2, (0,), ((0, "a", 1), (1, "a", 0), (1, "b", 1))), 1,
                 ("ab", "aa", "aba", 1, 1))):
            self.assertEqual(self.check(table, machine, most), expected)
            self.assertEqual(least_mixup(table, machine, most, 4), expected)
        chance = random.Random(42)
        for _ in range(1500):
            table, machine = any_table(chance, "ab", 2)[:4], any_machine(chance, chance.randint(2, 4), "ab")
            reading = Reading(table, machine, 2)
            if any(not fault[1] for fault in table) and len(reading.reached()) < 150:
                found = run(mixup, table, machine, 2)
                self.assertEqual(found and found[0], reading.least_text())

    def test_every_least_text_of_small_tables_and_machines(self):
        chance = random.Random(31)
        met = {}
        for _ in range(400):
            table, machine = any_table(chance, "ab", 2), any_machine(chance, chance.randint(1, 5), "ab")
            most = chance.randint(1, 2)
            found = self.check(table, machine, most)
            least = least_mixup(table, machine, most, 5)
            if found is not None and len(found[0]) <= 5:
                self.assertEqual(found, least)
                met[len(found[0])] = met.get(len(found[0]), 0) + 1
            else:
                self.assertIsNone(least)
        self.assertTrue(all(met.get(length, 0) > 2 for length in range(5)), met)

    def test_every_least_text_by_all_stands_of_each_text(self):
        chance = random.Random(32)
        lengths = []
        while len(lengths) < 300:
            table, machine = any_table(chance, "abc", 2)[:5], any_machine(chance, chance.randint(3, 8), "abc")
            machine = machine[:1] + (machine[1][:1],) + machine[2:]
            reading = Reading(table, machine, 2)
            if len(reading.reached()) < 150:
                found = self.check(table, machine, 2)
                text = reading.least_text()
                self.assertEqual(found and found[0], text)
                lengths.append(-1 if text is None else len(text))
        self.assertTrue(max(lengths) > 8 and lengths.count(-1) < 250, lengths)

    def test_a_text_much_longer_than_words_and_texts_that_are_passed(self):
        # Rings of three and of four letters: how late both are ended together depends on their ends.
        moves = [(0, "a", 1), (0, "b", 4)] + [(state, "c", state % 3 + 1) for state in (1, 2, 3)]
        moves += [(4, "c", 5), (5, "c", 6), (6, "c", 7), (7, "c", 4)]
        machine = (8, (3, 7), tuple(sorted(moves)))
        found = self.check((("b", "a", 1),), machine, 1)
        self.assertEqual(found, ("a" + "c" * 11, "a" + "c" * 11, "b" + "c" * 11, 0, 1))
        found = self.check((("b", "a", 1),), (8, (1, 6), machine[2]), 1)
        self.assertEqual(found, ("a" + "c" * 6, "a" + "c" * 6, "b" + "c" * 6, 0, 1))
        for table, machine in LONG:
            found = self.check(table, machine, 2)
            self.assertGreater(len(found[0]), 60)
            self.assertGreater(min(len(found[1]), len(found[2])), 55)
            self.assertEqual(found[0], Reading(table, machine, 2).least_text())
            self.assertEqual(run(strength, table, machine, 2), 1)

    def test_rings_that_are_never_ended_together(self):
        moves = [(0, "a", 1), (0, "b", 5)] + [(state, "c", state % 4 + 1) for state in (1, 2, 3, 4)]
        moves += [(5, "c", 6), (6, "c", 5)]
        # Both rings have an even number of letters; the ends are an odd number apart.
        machine = (8, (2, 5), tuple(sorted(moves)))
        for table in ((("b", "a", 1),), (("a", "b", 2), ("b", "a", 1), ("cc", "", 9)), (("a", "d", 1), ("b", "d", 1))):
            self.assertIsNone(self.check(table, machine, 2))
        self.assertEqual(
            self.check((("b", "a", 1), ("cc", "c", 1)), machine, 2), ("ac", "ac", "bcc", 0, 2))
        self.assertEqual(
            self.check((("b", "a", 1), ("cc", "c", 1)), machine, 1), ("acccc", "bcccc", "accccc", 1, 1))

    def test_very_many_stands(self):
        found = run(mixup, *MANY, 2)
        self.check_mixup(*MANY, 2, found)
        self.assertEqual(len(found[0]), 6)
        self.assertIs(run(is_told, *MANY, 2), False)
        self.assertIsNone(run(stands, *MANY, 2))
        proof = run(stands, *TOLD, 2)
        self.assertGreater(len(proof), 1000)
        self.assertIs(run(stands_hold, *TOLD, 2, proof), True)
        self.assertIs(run(stands_hold, *TOLD, 2, proof[:-1]), Reading(*TOLD, 2).is_proof(proof[:-1]))
        self.assertIsNone(self.check(*TOLD, 2))


class Strength(Checked):
    def test_the_table_of_the_overview(self):
        self.assertEqual([run(strength, TABLE, MACHINE, limit) for limit in range(3)], [0, 1, 1])

    def test_it_is_the_greatest_price_without_a_mixup(self):
        chance = random.Random(33)
        met = set()
        for _ in range(500):
            table, machine = any_table(chance, "abc", 3), any_machine(chance, chance.randint(1, 6), "abc")
            told = [mixup(table, machine, most) is None for most in range(3)]
            self.assertEqual(told, sorted(told, reverse=True))
            for limit in range(3):
                self.assertEqual(run(strength, table, machine, limit), sum(told[:limit + 1]) - 1)
            met.add(sum(told) - 1)
        self.assertEqual(met, {0, 1, 2})

    def test_limits_zero_two_and_three(self):
        for limit in range(3):
            self.assertEqual(run(strength, (), ALL_WORDS, limit), limit)
            self.assertEqual(run(strength, (("a", "", 1),), ALL_WORDS, limit), 0)
            self.assertEqual(run(strength, (("a", "", 2),), ALL_WORDS, limit), min(limit, 1))
            self.assertEqual(run(strength, (("a", "", 3),), ALL_WORDS, limit), limit)
        self.assertEqual(refused_at(strength, (), ALL_WORDS, 3), 2)
        self.assertEqual(refused_at(strength, (), ALL_WORDS, -1), 2)

    def test_machines_that_tell_the_same_and_tables_alike(self):
        chance = random.Random(34)
        for _ in range(150):
            table, machine = any_table(chance, "ab", 2), any_machine(chance, 4, "ab")
            order = [0] + chance.sample(range(1, 4), 3)
            expected = run(mixup, table, machine, 2), run(strength, table, machine, 2)
            for same in (least_machine(machine), renumbered(machine, order)):
                self.assertEqual((run(mixup, table, same, 2), run(strength, table, same, 2)), expected)
            alike = least_table(table)
            self.assertEqual((run(mixup, alike, machine, 2), run(strength, alike, machine, 2)), expected)

    def test_mixups_of_words_are_those_of_their_machine(self):
        chance = random.Random(35)
        for _ in range(150):
            table = any_table(chance, "abc", 3)
            words = chance.sample(words_up_to(3, "abc"), chance.randint(2, 6))
            machine = machine_of(words) if len(words) < 4 else machine_of(words[:4])
            self.assertEqual(sorted(first_words(machine, 50)), sorted(words[:4]))
            self.check(table, machine, 2)


class BadValues(unittest.TestCase):
    def test_the_first_wrong_argument_is_told(self):
        for function in (is_told, stands, mixup, strength):
            self.assertEqual(refused_at(function, TABLE[::-1], (0, (), ()), 3), 0)
            self.assertEqual(refused_at(function, TABLE, (0, (), ()), 3), 1)
            self.assertEqual(refused_at(function, TABLE, MACHINE, 3), 2)
            self.assertEqual(refused_at(function, TABLE, MACHINE, True), 2)
            self.assertEqual(refused_at(function, TABLE, MACHINE, False), 2)

    def test_any_value_may_be_passed_for_a_proof_but_nothing_wrong_before_it(self):
        for value in NOTHINGS + ((START,), "proof"):
            self.assertEqual(refused_at(stands_hold, TABLE[::-1], (0, (), ()), 3, value), 0)
            self.assertEqual(refused_at(stands_hold, TABLE, (0, (), ()), 3, value), 1)
            self.assertEqual(refused_at(stands_hold, TABLE, MACHINE, 3, value), 2)
            self.assertIsNone(refused_at(stands_hold, TABLE, MACHINE, 2, value))

    def test_machines_of_one_state_of_eight_and_of_nine(self):
        for function in (is_told, stands, mixup, strength):
            for count, at in ((0, 1), (1, None), (8, None), (9, 1)):
                self.assertEqual(refused_at(function, TABLE, (count, (), ()), 1), at)


if __name__ == "__main__":
    unittest.main()
