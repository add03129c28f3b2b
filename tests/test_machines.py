"""[15], [16] and [10]: machines, the words that they tell, least machines."""

import itertools
import random
import unittest

from slipworth.errors import TooMany
from slipworth.machines import first_words, is_machine, least_machine, machine_of, tells
from tests.helper import forms, refused_at, run

MACHINE = (3, (2,), ((0, "a", 1), (1, "b", 2), (2, "a", 2)))
ALL_WORDS = (1, (0,), tuple((0, letter, 0) for letter in "abcdef"))
RING = (8, (7,), tuple((state, "f", (state + 1) % 8) for state in range(8)))
LINE = (8, (7,), tuple((state, "c", state + 1) for state in range(7)))


def told(machine, word):
    """Whether the machine tells the word, step by step by its moves."""
    states = [0]
    for letter in word:
        states = [behind for state, sign, behind in machine[2] if state == states[0] and sign == letter]
        if not states:
            return False
    return states[0] in machine[1]


def words_up_to(length, letters="abcdef"):
    """All words of at most this length, in their order."""
    return ["".join(word) for many in range(length + 1) for word in itertools.product(letters, repeat=many)]


def told_up_to(machine, length, letters="abcdef"):
    return tuple(word for word in words_up_to(length, letters) if told(machine, word))


def any_machine(chance, count, letters):
    """Some machine of this many states."""
    ends = tuple(state for state in range(count) if chance.random() < 0.4)
    moves = tuple(
        (state, letter, chance.randrange(count))
        for state in range(count) for letter in letters if chance.random() < 0.7)
    return (count, ends, moves)


def all_machines(count, letters):
    """All machines of this many states with these letters."""
    keys = [(state, letter) for state in range(count) for letter in letters]
    for many in range(count + 1):
        for ends in itertools.combinations(range(count), many):
            for targets in itertools.product([None] + list(range(count)), repeat=len(keys)):
                moves = [(*key, behind) for key, behind in zip(keys, targets) if behind is not None]
                yield (count, ends, tuple(moves))


def renumbered(machine, order):
    """The same machine with state k called order[k]; order[0] is 0."""
    count, ends, moves = machine
    return (
        count, tuple(sorted(order[end] for end in ends)),
        tuple(sorted((order[state], letter, order[behind]) for state, letter, behind in moves)))


def tell_the_same(one, other):
    """Whether two machines tell the same words: no word leads to an end of just one of them."""
    steps = [{move[:2]: move[2] for move in machine[2]} for machine in (one, other)]
    pairs = [(0, 0)]
    for pair in pairs:
        if (pair[0] in one[1]) != (pair[1] in other[1]):
            return False
        for letter in "abcdef":
            behind = tuple(step.get((state, letter)) for step, state in zip(steps, pair))
            if behind not in pairs:
                pairs.append(behind)
    return True


def is_numbered_as_reached(machine):
    """Whether the states are numbered as they are first reached, state by state, and are all reached."""
    reached = [0]
    for at in range(machine[0]):
        if at >= len(reached):
            return False
        for state, _, behind in machine[2]:
            if state == at and behind not in reached:
                reached.append(behind)
    return reached == list(range(machine[0]))


class IsMachine(unittest.TestCase):
    def test_machines(self):
        for machine in (
                MACHINE, ALL_WORDS, RING, LINE, (1, (), ()), (1, (0,), ()), (8, (), ()), (8, tuple(range(8)), ()),
                (8, (0, 7), ((7, "f", 7),)), (2, (), ((0, "a", 1), (0, "b", 0), (1, "a", 0))),
                (8, tuple(range(8)), tuple((state, letter, 7) for state in range(8) for letter in "abcdef"))):
            for value in forms(machine):
                self.assertIs(run(is_machine, value), True)

    def test_one_state_eight_and_nine(self):
        for count, fits in ((0, False), (1, True), (8, True), (9, False), (True, False)):
            self.assertIs(run(is_machine, (count, (), ())), fits)

    def test_states_from_zero_to_count_less_one(self):
        for state, fits in ((-1, False), (0, True), (2, True), (3, False), (True, False)):
            self.assertIs(run(is_machine, (3, (state,), ())), fits)
            self.assertIs(run(is_machine, (3, (), ((state, "a", 0),))), fits)
            self.assertIs(run(is_machine, (3, (), ((0, "a", state),))), fits)

    def test_order(self):
        self.assertIs(run(is_machine, (3, (0, 1, 2), ())), True)
        self.assertIs(run(is_machine, (3, (0, 2, 1), ())), False)
        self.assertIs(run(is_machine, (3, (0, 0), ())), False)
        moves = ((0, "a", 1), (0, "b", 0), (1, "a", 0))
        for turned in itertools.permutations(moves):
            self.assertIs(run(is_machine, (2, (), turned)), turned == moves)
        self.assertIs(run(is_machine, (2, (), ((0, "a", 0), (0, "a", 1)))), False)


class Tells(unittest.TestCase):
    def test_the_machine_of_the_overview(self):
        for word, is_told in (("", False), ("a", False), ("ab", True), ("aba", True), ("abaaaaaaaaaa", True),
                              ("abb", False), ("b", False), ("ba", False), ("abab", False), ("f", False)):
            self.assertIs(run(tells, MACHINE, word), is_told)

    def test_the_empty_word(self):
        self.assertIs(run(tells, (1, (0,), ()), ""), True)
        self.assertIs(run(tells, (1, (), ()), ""), False)
        self.assertIs(run(tells, (2, (1,), ((0, "a", 1),)), ""), False)

    def test_words_of_twelve_letters_and_longer_ones_that_were_returned(self):
        self.assertIs(run(tells, ALL_WORDS, "abcdefabcdef"), True)
        self.assertIs(run(tells, LINE, "c" * 7), True)
        self.assertIs(run(tells, LINE, "c" * 12), False)
        long = run(first_words, RING, 50)[-1]
        self.assertEqual(long, "f" * (7 + 8 * 49))
        self.assertIs(run(tells, RING, long), True)
        self.assertIs(run(tells, RING, long[1:]), False)

    def test_many_machines(self):
        chance = random.Random(15)
        for _ in range(60):
            machine = any_machine(chance, chance.randint(1, 8), "abf")
            for word in words_up_to(4, "abf"):
                self.assertIs(run(tells, machine, word), told(machine, word))


class FirstWords(unittest.TestCase):
    def test_the_order_of_words(self):
        self.assertEqual(run(first_words, MACHINE, 4), ("ab", "aba", "abaa", "abaaa"))
        expected = tuple(words_up_to(3)[:50])
        self.assertEqual(expected[5:9], ("e", "f", "aa", "ab"))
        self.assertEqual(run(first_words, ALL_WORDS, 50), expected)

    def test_limits(self):
        self.assertEqual(run(first_words, MACHINE, 0), ())
        self.assertEqual(run(first_words, MACHINE, 1), ("ab",))
        self.assertEqual(len(run(first_words, MACHINE, 50)), 50)
        self.assertEqual(refused_at(first_words, MACHINE, 51), 1)
        self.assertEqual(refused_at(first_words, MACHINE, -1), 1)

    def test_no_word_and_few_words(self):
        for machine in ((1, (), ()), (8, (), RING[2]), (2, (1,), ()), (3, (2,), ((0, "a", 1), (1, "a", 0)))):
            for limit in (0, 1, 50):
                self.assertEqual(run(first_words, machine, limit), ())
        self.assertEqual(run(first_words, (1, (0,), ()), 50), ("",))
        self.assertEqual(run(first_words, LINE, 50), ("ccccccc",))

    def test_endlessly_many_words_far_apart(self):
        expected = tuple("f" * (7 + 8 * turn) for turn in range(50))
        for limit in (0, 1, 2, 49, 50):
            self.assertEqual(run(first_words, RING, limit), expected[:limit])

    def test_a_word_behind_many_beginnings_of_longer_ones(self):
        # All words of d and e can be gone on with, but none of them ends for long.
        moves = [(0, "a", 1), (0, "b", 7), (7, "f", 0)]
        moves += [(state, letter, state + 1) for state in range(1, 6) for letter in "abcdef"]
        machine = (8, (6, 7), tuple(sorted(moves)))
        self.assertEqual(
            run(first_words, machine, 5), ("b", "bfb", "bfbfb", "aaaaaa", "aaaaab"))

    def test_many_machines(self):
        chance = random.Random(16)
        for _ in range(80):
            machine = any_machine(chance, chance.randint(1, 5), "ac")
            expected = told_up_to(machine, 9, "ac")
            found = run(first_words, machine, 50)
            short = tuple(word for word in found if len(word) <= 9)
            self.assertEqual(short, expected[:50])
            self.assertTrue(all(told(machine, word) for word in found))
            self.assertEqual(sorted(found, key=lambda word: (len(word), word)), list(found))
            for limit in (1, 2, 7):
                self.assertEqual(run(first_words, machine, limit), found[:limit])


class LeastMachine(unittest.TestCase):
    def test_plain_ones(self):
        self.assertEqual(run(least_machine, MACHINE), MACHINE)
        self.assertEqual(run(least_machine, ALL_WORDS), ALL_WORDS)
        self.assertEqual(run(least_machine, RING), RING)
        self.assertEqual(run(least_machine, LINE), LINE)
        self.assertEqual(run(least_machine, (1, (0,), ())), (1, (0,), ()))

    def test_no_word(self):
        for machine in ((1, (), ()), (1, (), ((0, "a", 0),)), (8, (), RING[2]), (2, (1,), ((1, "a", 0),)), (8, (7,), ())):
            self.assertEqual(run(least_machine, machine), (1, (), ()))

    def test_dead_and_unreached_states_go(self):
        machine = (5, (1, 4), ((0, "a", 1), (0, "b", 2), (2, "a", 2), (3, "a", 1), (4, "b", 4)))
        self.assertEqual(run(least_machine, machine), (2, (1,), ((0, "a", 1),)))

    def test_states_that_tell_the_same_become_one(self):
        machine = (4, (1, 2, 3), ((0, "a", 1), (0, "b", 2), (1, "c", 3), (2, "c", 1), (3, "c", 2)))
        self.assertEqual(run(least_machine, machine), (2, (1,), ((0, "a", 1), (0, "b", 1), (1, "c", 1))))

    def test_numbered_as_first_reached(self):
        machine = (4, (1,), ((0, "a", 3), (0, "b", 2), (2, "c", 1), (3, "a", 0), (3, "b", 1)))
        self.assertEqual(
            run(least_machine, machine),
            (4, (3,), ((0, "a", 1), (0, "b", 2), (1, "a", 0), (1, "b", 3), (2, "c", 3))))
        for order in itertools.permutations((1, 2, 3)):
            turned = renumbered(machine, (0,) + order)
            self.assertIs(run(is_machine, turned), True)
            self.assertEqual(run(least_machine, turned), run(least_machine, machine))

    def test_all_small_machines(self):
        # Machines of at most two states tell the same words if they do so up to three letters.
        kinds = {}
        for count in (1, 2):
            for machine in all_machines(count, "ab"):
                kinds.setdefault(told_up_to(machine, 3, "ab"), []).append(machine)
        lasts = []
        for words, machines in kinds.items():
            fewest = min((count, len(moves)) for count, _, moves in machines)
            leasts = {run(least_machine, machine) for machine in machines}
            self.assertEqual(len(leasts), 1)
            least = leasts.pop()
            self.assertIn(least, machines)
            self.assertEqual((least[0], len(least[2])), fewest)
            self.assertTrue(is_numbered_as_reached(least))
            self.assertEqual(told_up_to(least, 3, "ab"), words)
            lasts.append(least)
        self.assertEqual(len(set(lasts)), len(kinds))

    def test_equal_if_and_only_if_they_tell_the_same(self):
        chance = random.Random(10)
        kinds = {}
        for _ in range(800):
            machine = any_machine(chance, chance.randint(1, 3), "ad")
            least = run(least_machine, machine)
            words = told_up_to(machine, 6, "ad")
            self.assertEqual(kinds.setdefault(words, least), least)
            self.assertEqual(told_up_to(least, 6, "ad"), words)
        self.assertEqual(len(set(kinds.values())), len(kinds))

    def test_large_machines(self):
        chance = random.Random(8)
        for _ in range(60):
            machine = any_machine(chance, 8, "abe")
            least = run(least_machine, machine)
            self.assertIs(run(is_machine, least), True)
            self.assertLessEqual(least[0], 8)
            self.assertTrue(is_numbered_as_reached(least))
            self.assertEqual(run(least_machine, least), least)
            order = [0] + chance.sample(range(1, 8), 7)
            self.assertEqual(run(least_machine, renumbered(machine, order)), least)
            self.assertTrue(tell_the_same(machine, least))
            # Each state ends words of its own, so there is none too many.
            starts = [renumbered(least, swap(0, state)) for state in range(least[0])]
            for one, other in itertools.combinations(starts, 2):
                self.assertFalse(tell_the_same(one, other))
            for start in starts:
                self.assertEqual(tell_the_same(start, (1, (), ())), least == (1, (), ()))


def swap(one, other):
    """The order of eight states with these two exchanged."""
    order = list(range(8))
    order[one], order[other] = other, one
    return order


class MachineOf(unittest.TestCase):
    def test_no_word_and_the_empty_word(self):
        self.assertEqual(run(machine_of, ()), (1, (), ()))
        self.assertEqual(run(machine_of, []), (1, (), ()))
        self.assertEqual(run(machine_of, ("",)), (1, (0,), ()))

    def test_plain_ones(self):
        self.assertEqual(run(machine_of, ("a", "b")), (2, (1,), ((0, "a", 1), (0, "b", 1))))
        self.assertEqual(run(machine_of, ("ab", "", "a")), (3, (0, 1, 2), ((0, "a", 1), (1, "b", 2))))
        self.assertEqual(
            run(machine_of, ("bf", "a", "af")),
            (4, (1, 3), ((0, "a", 1), (0, "b", 2), (1, "f", 3), (2, "f", 3))))

    def test_in_any_sequence(self):
        for words in itertools.permutations(("ab", "ba", "", "bab")):
            self.assertEqual(run(machine_of, words), run(machine_of, ("", "ab", "ba", "bab")))

    def test_twelve_words_and_thirteen(self):
        words = words_up_to(2, "abc")
        self.assertEqual(len(words), 13)
        for left_out in words:
            twelve = [word for word in words if word != left_out]
            machine = run(machine_of, twelve)
            self.assertEqual(run(first_words, machine, 50), tuple(twelve))
        self.assertEqual(refused_at(machine_of, words), 0)
        self.assertEqual(refused_at(machine_of, words[:1] * 2), 0)

    def test_eight_states_and_nine(self):
        self.assertEqual(run(machine_of, ("c" * 7,)), LINE)
        long = ("a" * 7, "abababa", "abcdefa", "f" * 6)
        for words in (("c" * 8,), ("abcdefabcdef",), ("", "f" * 8), long, ("a" * 391,), ("a" * 391, "b" * 391)):
            with self.assertRaises(TooMany):
                run(machine_of, words)
        self.assertEqual(run(machine_of, ("aaaaaaa", "baaaaaa"))[0], 8)
        self.assertEqual(run(machine_of, ("aaa", "bbb", "ccc"))[0], 8)
        with self.assertRaises(TooMany):
            run(machine_of, ("aaa", "bbb", "ccc", "cdd"))
        with self.assertRaises(TooMany):
            run(machine_of, ("abca", "bcab", "cabc"))

    def test_many_lists(self):
        chance = random.Random(12)
        seen = {True: 0, False: 0}
        words = words_up_to(7, "ab")
        for _ in range(400):
            few = chance.sample(words[:chance.choice((7, 15, 31, 255))], chance.randint(0, 7))
            rests = {
                tuple(sorted(word[len(start):] for word in few if word.startswith(start)))
                for word in few for start in [word[:at] for at in range(len(word) + 1)]}
            fits = len(rests) <= 8
            seen[fits] += 1
            if not fits:
                with self.assertRaises(TooMany):
                    run(machine_of, few)
                continue
            machine = run(machine_of, few)
            self.assertIs(run(is_machine, machine), True)
            self.assertEqual(machine[0], max(1, len(rests)))
            self.assertEqual(run(first_words, machine, 50), tuple(sorted(few, key=lambda word: (len(word), word))))
            self.assertEqual(run(least_machine, machine), machine)
        self.assertTrue(min(seen.values()) > 50)


if __name__ == "__main__":
    unittest.main()
