"""[21] to [24] and [3]: the words that a text may mean, and those that it means."""

import itertools
import random
import unittest

from slipworth.machines import first_words, machine_of
from slipworth.meanings import meant, within
from slipworth.mixups import is_told
from slipworth.prices import price, typed
from tests.helper import forms, refused_at, run
from tests.test_machines import any_machine, told, words_up_to
from tests.test_prices import any_table, any_word

TABLE = (("", "a", 2), ("a", "", 2), ("a", "b", 4), ("ab", "ba", 1))
MACHINE = (3, (2,), ((0, "a", 1), (1, "b", 2), (2, "a", 2)))
ALL_WORDS = (1, (0,), tuple((0, letter, 0) for letter in "abcdef"))


def by_price(found):
    """The pairs of a dict of words and prices, by price, then by word."""
    return tuple(sorted(found.items(), key=lambda row: (row[1], len(row[0]), row[0])))


def all_words(table, machine, text, most):
    """The words of all cuts of the text up to the price, each with its least price, by the words of [22]."""
    steps = {move[:2]: move[2] for move in machine[2]}
    found = {}

    def walk(rest, word, state, total):
        if not rest and state in machine[1]:
            found[word] = min(total, found.get(word, most))
        pieces = list(table) + [(letter, letter, 0) for letter in rest[:1]]
        for meaning, written, cost in pieces:
            behind = state
            for letter in meaning:
                behind = steps.get((behind, letter))
            if behind is not None and rest.startswith(written) and total + cost <= most:
                walk(rest[len(written):], word + meaning, behind, total + cost)

    walk(text, "", 0, 0)
    return by_price(found)


def least_of(rows):
    """The least price of the pairs and all words that have it, by the words of [23]."""
    least = min([total for _, total in rows], default=None)
    return None if least is None else (least, tuple(word for word, total in rows if total == least))


class Within(unittest.TestCase):
    def test_the_table_of_the_overview(self):
        self.assertEqual(run(within, TABLE, MACHINE, "aba", 0), (("aba", 0),))
        self.assertEqual(run(within, TABLE, MACHINE, "aba", 1), (("aba", 0),))
        self.assertEqual(run(within, TABLE, MACHINE, "aba", 2), (("aba", 0), ("ab", 2), ("abaa", 2)))
        self.assertEqual(run(within, TABLE, MACHINE, "ba", 3), (("ab", 1), ("aba", 2)))
        self.assertEqual(run(within, TABLE, MACHINE, "c", 3), ())

    def test_by_price_then_by_length_then_by_letters(self):
        table = (("a", "f", 1), ("ab", "f", 1), ("ac", "f", 2), ("b", "f", 1), ("ba", "f", 1), ("c", "f", 2))
        self.assertEqual(run(within, table, ALL_WORDS, "f", 2), (
            ("f", 0), ("a", 1), ("b", 1), ("ab", 1), ("ba", 1), ("c", 2), ("ac", 2)))

    def test_the_price_is_the_least_one_of_all_cuts(self):
        table = (("a", "", 1), ("a", "b", 3), ("ab", "b", 2))
        self.assertEqual(run(within, table, machine_of(["ab"]), "b", 3), (("ab", 1),))
        table = (("", "b", 1), ("a", "", 2), ("a", "b", 2))
        self.assertEqual(run(within, table, machine_of(["a"]), "b", 3), (("a", 2),))

    def test_the_empty_text_and_the_empty_word(self):
        self.assertEqual(run(within, (), ALL_WORDS, "", 3), (("", 0),))
        self.assertEqual(run(within, TABLE, ALL_WORDS, "", 2), (("", 0), ("a", 2)))
        self.assertEqual(run(within, TABLE, ALL_WORDS, "a", 2), (("a", 0), ("", 2), ("aa", 2)))
        self.assertEqual(run(within, TABLE, MACHINE, "", 3), ())
        self.assertEqual(run(within, TABLE, machine_of([""]), "a", 3), (("", 2),))

    def test_texts_of_six_letters_and_of_seven(self):
        for function in (within, meant):
            self.assertIsNone(refused_at(function, TABLE, MACHINE, "abaaaa", 3))
            self.assertEqual(refused_at(function, TABLE, MACHINE, "abaaaaa", 3), 2)
            self.assertEqual(refused_at(function, TABLE, MACHINE, "abaaaaa", 4), 2)
        self.assertEqual(run(within, TABLE, MACHINE, "abaaaa", 3), (("abaaaa", 0), ("abaaa", 2), ("abaaaaa", 2)))

    def test_prices_zero_three_and_four(self):
        for function in (within, meant):
            for most, at in ((-1, 3), (0, None), (3, None), (4, 3)):
                self.assertEqual(refused_at(function, TABLE, MACHINE, "ab", most), at)
        for text in words_up_to(4, "ab"):
            self.assertEqual(run(within, TABLE, ALL_WORDS, text, 0), ((text, 0),))
            self.assertEqual(run(within, TABLE, ALL_WORDS, text, 3), all_words(TABLE, ALL_WORDS, text, 3))

    def test_without_a_fault(self):
        for machine in (MACHINE, ALL_WORDS, machine_of(["", "abc"])):
            for text in words_up_to(3, "abc"):
                self.assertEqual(run(within, (), machine, text, 3), ((text, 0),) if told(machine, text) else ())

    def test_machines_that_tell_no_word(self):
        table = (("", "a", 1), ("a", "", 1))
        for machine in ((1, (), ()), (1, (), ((0, "a", 0),)), (2, (1,), ((0, "a", 0), (1, "a", 0)))):
            self.assertEqual(run(within, table, machine, "a", 3), ())
            self.assertIsNone(run(meant, table, machine, "a", 3))

    def test_moves_from_which_no_word_can_be_ended(self):
        machine = (8, (1,), ((0, "a", 1), (0, "b", 2), (2, "a", 3), (2, "b", 2), (3, "a", 2)))
        table = (("a", "", 1), ("b", "", 1), ("bb", "", 1))
        self.assertEqual(run(within, table, machine, "", 3), (("a", 1),))
        self.assertEqual(run(within, table, machine, "bba", 3), ())

    def test_letters_that_only_the_machine_or_only_the_table_has(self):
        machine = machine_of(["abc", "abd"])
        table = (("", "e", 1), ("a", "f", 1), ("b", "", 1), ("e", "c", 1))
        self.assertEqual(run(within, table, machine, "fec", 3), (("abc", 3),))
        self.assertEqual(run(within, table, machine, "fbd", 3), (("abd", 1),))
        self.assertEqual(run(within, table, machine, "aec", 2), (("abc", 2),))
        self.assertEqual(run(within, (("e", "f", 1),), machine, "abf", 3), ())

    def test_many_tables_and_machines(self):
        chance = random.Random(22)
        for _ in range(1200):
            letters = chance.choice(("ab", "abc"))
            table, machine = any_table(chance, letters, 3), any_machine(chance, chance.randint(1, 8), letters)
            text, most = any_word(chance, letters, 6), chance.randint(0, 3)
            expected = all_words(table, machine, text, most)
            self.assertEqual(run(within, table, machine, text, most), expected)
            self.assertEqual(run(meant, table, machine, text, most), least_of(expected))

    def test_the_prices_are_those_of_price_and_no_word_is_missing(self):
        chance = random.Random(23)
        for _ in range(60):
            table, machine = any_table(chance, "ab", 3), any_machine(chance, 3, "ab")
            text = any_word(chance, "ab", 4)
            # Three faults make a word longer by six letters at most.
            words = [word for word in words_up_to(len(text) + 6, "ab") if told(machine, word)]
            prices = {word: price(table, word, text) for word in words}
            expected = {word: total for word, total in prices.items() if total is not None and total <= 3}
            self.assertEqual(run(within, table, machine, text, 3), by_price(expected))

    def test_what_typed_tells(self):
        chance = random.Random(24)
        for _ in range(40):
            table, machine = any_table(chance, "abc", 3), any_machine(chance, 4, "abc")
            for word in first_words(machine, 12):
                if len(word) <= 6:
                    for text, total in typed(table, word, 3):
                        if len(text) <= 6:
                            self.assertIn((word, total), run(within, table, machine, text, 3))

    def test_very_many_words(self):
        table = tuple((one + other, "", 1) for one in "ab" for other in "cdef")
        found = run(within, table, ALL_WORDS, "abcdef", 3)
        self.assertEqual(found, all_words(table, ALL_WORDS, "abcdef", 3))
        self.assertGreater(len(found), 30000)
        self.assertEqual(run(meant, table, ALL_WORDS, "abcdef", 3), (0, ("abcdef",)))
        ring = (8, (7,), tuple((state, letter, (state + 1) % 8) for state in range(8) for letter in "abcdef"))
        self.assertEqual(run(within, table, ring, "abcdef", 3), ())
        self.assertEqual(run(within, table, ring, "abcde", 3), all_words(table, ring, "abcde", 3))


class Meant(unittest.TestCase):
    def test_the_table_of_the_overview(self):
        self.assertEqual(run(meant, TABLE, MACHINE, "aba", 3), (0, ("aba",)))
        self.assertEqual(run(meant, TABLE, MACHINE, "ba", 3), (1, ("ab",)))
        self.assertEqual(run(meant, TABLE, MACHINE, "aaba", 2), (2, ("aba",)))
        self.assertIsNone(run(meant, TABLE, MACHINE, "aaba", 1))
        self.assertIsNone(run(meant, TABLE, MACHINE, "", 3))

    def test_all_words_with_the_least_price_ascending(self):
        table = (("a", "f", 2), ("aa", "f", 2), ("b", "f", 2), ("c", "f", 1), ("cc", "f", 2))
        self.assertEqual(run(meant, table, machine_of(["b", "aa", "a", "cc"]), "f", 2), (2, ("a", "b", "aa", "cc")))
        self.assertEqual(run(meant, table, machine_of(["b", "c", "a"]), "f", 2), (1, ("c",)))
        self.assertIsNone(run(meant, table, machine_of(["b", "aa", "a"]), "f", 1))
        self.assertEqual(run(meant, table, ALL_WORDS, "f", 2), (0, ("f",)))

    def test_the_empty_text_and_the_empty_word(self):
        self.assertEqual(run(meant, (), machine_of([""]), "", 0), (0, ("",)))
        self.assertEqual(run(meant, (("", "a", 3), ("a", "", 3)), machine_of([""]), "a", 3), (3, ("",)))
        self.assertEqual(run(meant, (("a", "", 3), ("b", "", 3)), machine_of(["b", "a"]), "", 3), (3, ("a", "b")))

    def test_it_is_the_least_of_within(self):
        for table in (TABLE, (), (("", "b", 1), ("a", "", 1), ("ab", "b", 1), ("b", "a", 1))):
            for machine in (MACHINE, ALL_WORDS, machine_of(["", "ab", "ba", "bb"])):
                for text, most in itertools.product(words_up_to(4, "ab"), range(4)):
                    expected = least_of(run(within, table, machine, text, most))
                    self.assertEqual(run(meant, table, machine, text, most), expected)

    def test_told_words_are_the_only_ones(self):
        chance = random.Random(3)
        seen = 0
        while seen < 60:
            table, machine = any_table(chance, "abc", 3), any_machine(chance, chance.randint(2, 6), "abc")
            most = chance.randint(1, 2)
            if not is_told(table, machine, most):
                continue
            for word in first_words(machine, 8):
                for text, total in typed(table, word, most) if len(word) <= 6 else ():
                    if len(text) <= 6:
                        seen += total > 0
                        self.assertEqual(run(within, table, machine, text, most), ((word, total),))
                        self.assertEqual(run(meant, table, machine, text, most), (total, (word,)))


class BadValues(unittest.TestCase):
    def test_the_first_wrong_argument_is_told(self):
        for function in (within, meant):
            self.assertEqual(refused_at(function, TABLE[::-1], (0, (), ()), "g", 4), 0)
            self.assertEqual(refused_at(function, TABLE, (0, (), ()), "g", 4), 1)
            self.assertEqual(refused_at(function, TABLE, MACHINE, "g", 4), 2)
            self.assertEqual(refused_at(function, TABLE, MACHINE, "a", 4), 3)
            self.assertEqual(refused_at(function, TABLE, MACHINE, "a", True), 3)

    def test_tables_with_eight_faults_and_with_nine(self):
        nine = tuple((letter, "", 1) for letter in "abcdef") + (("f", "a", 1), ("f", "b", 1), ("f", "c", 1))
        self.assertEqual(run(meant, nine[:8], machine_of(["fff"]), "fab", 2), (2, ("fff",)))
        self.assertEqual(refused_at(meant, nine, machine_of(["fff"]), "fab", 2), 0)

    def test_machines_of_one_state_of_eight_and_of_nine(self):
        for function in (within, meant):
            for count, at in ((0, 1), (1, None), (8, None), (9, 1)):
                self.assertEqual(refused_at(function, TABLE, (count, (), ()), "a", 1), at)

    def test_lists_for_tuples(self):
        expected = run(within, TABLE, MACHINE, "aba", 3)
        for table, machine in itertools.product(forms(TABLE), forms(MACHINE)):
            self.assertEqual(run(within, table, machine, "aba", 3), expected)
            self.assertEqual(run(meant, table, machine, "aba", 3), (0, ("aba",)))


if __name__ == "__main__":
    unittest.main()
