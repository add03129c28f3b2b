"""[17] to [20] and [5]: tables, prices, cuts, and the texts up to a price."""

import functools
import itertools
import random
import unittest

from slipworth.machines import first_words
from slipworth.prices import cut, is_table, price, typed
from tests.helper import forms, refused_at, run

TABLE = (("", "a", 2), ("a", "", 2), ("a", "b", 4), ("ab", "ba", 1))
EIGHT = (("", "a", 1), ("", "b", 1), ("", "c", 1), ("a", "", 1), ("a", "b", 1), ("b", "", 1), ("b", "a", 1), ("c", "", 1))


def all_cuts(table, word, text):
    """Every cut of the word and the text, by the words of [18]."""
    if not word and not text:
        yield ()
    pieces = list(table) + [(letter, letter, 0) for letter in word[:1]]
    for piece in pieces:
        if word.startswith(piece[0]) and text.startswith(piece[1]):
            for rest in all_cuts(table, word[len(piece[0]):], text[len(piece[1]):]):
                yield (piece,) + rest


def price_of(pieces):
    return sum(piece[2] for piece in pieces)


def least_price(table, word, text):
    return min(map(price_of, all_cuts(table, word, text)), default=None)


def quick_price(table, word, text):
    """The price by the prices of the ends of word and text."""
    @functools.lru_cache(None)
    def rest(at, to):
        found = [0] if (at, to) == (len(word), len(text)) else []
        pieces = list(table) + [(letter, letter, 0) for letter in word[at:at + 1]]
        for meant, written, cost in pieces:
            if word.startswith(meant, at) and text.startswith(written, to):
                behind = rest(at + len(meant), to + len(written))
                if behind is not None:
                    found.append(cost + behind)
        return min(found, default=None)
    return rest(0, 0)


def all_typed(table, word, most):
    """The texts of all cuts up to the price, each with its least price."""
    found = {}

    def walk(rest, text, total):
        if total > most:
            return
        if not rest:
            found[text] = min(total, found.get(text, most))
        for meant, written, cost in table:
            if rest.startswith(meant):
                walk(rest[len(meant):], text + written, total + cost)
        if rest:
            walk(rest[1:], text + rest[0], total)

    walk(word, "", 0)
    return tuple(sorted(found.items(), key=lambda row: (row[1], len(row[0]), row[0])))


def any_table(chance, letters, dearest=9):
    """Some table with these letters."""
    pieces = ["".join(piece) for many in range(3) for piece in itertools.product(letters, repeat=many)]
    keys = set()
    for _ in range(chance.randint(0, 8)):
        meant, written = chance.choice(pieces), chance.choice(pieces)
        if meant != written:
            keys.add((meant, written))
    return tuple((meant, written, chance.randint(1, dearest)) for meant, written in sorted(keys))


def any_word(chance, letters, most):
    return "".join(chance.choice(letters) for _ in range(chance.randint(0, most)))


class IsTable(unittest.TestCase):
    def test_tables(self):
        for table in (
                (), TABLE, EIGHT, (("", "ab", 9),), (("ab", "", 1),), (("ab", "ba", 1),), (("ef", "f", 3),),
                (("a", "b", 1), ("a", "c", 1), ("ab", "c", 1), ("b", "c", 1))):
            for value in forms(table):
                self.assertIs(run(is_table, value), True)

    def test_no_fault_eight_and_nine(self):
        nine = EIGHT + (("d", "", 1),)
        for many in range(9):
            self.assertIs(run(is_table, nine[:many]), True)
        self.assertIs(run(is_table, nine), False)
        self.assertIs(run(is_table, nine[1:]), True)

    def test_prices_of_faults(self):
        for cost, fits in ((0, False), (1, True), (9, True), (10, False), (True, False), (-1, False)):
            self.assertIs(run(is_table, (("a", "b", cost),)), fits)

    def test_pieces(self):
        for meant, written, fits in (
                ("", "a", True), ("a", "", True), ("", "", False), ("a", "a", False), ("ab", "ab", False),
                ("ab", "a", True), ("abc", "a", False), ("a", "abc", False), ("f", "fe", True), ("g", "a", False)):
            self.assertIs(run(is_table, ((meant, written, 5),)), fits)

    def test_order_is_that_of_tuples(self):
        # As words are ordered, b would come before ab.
        self.assertIs(run(is_table, (("ab", "", 1), ("b", "", 1))), True)
        self.assertIs(run(is_table, (("b", "", 1), ("ab", "", 1))), False)
        self.assertIs(run(is_table, (("", "ab", 1), ("", "b", 1))), True)
        self.assertIs(run(is_table, (("", "b", 1), ("", "ab", 1))), False)
        for turned in itertools.permutations(TABLE):
            self.assertIs(run(is_table, turned), turned == TABLE)

    def test_the_same_pieces_twice(self):
        for costs in ((1, 1), (1, 2), (2, 1)):
            self.assertIs(run(is_table, tuple(("a", "b", cost) for cost in costs)), False)


class Price(unittest.TestCase):
    def test_the_example_of_the_overview(self):
        self.assertEqual(run(price, TABLE, "abc", "bac"), 1)
        self.assertEqual(run(price, TABLE, "abc", "bc"), 2)
        self.assertIsNone(run(price, TABLE, "abc", "ccc"))

    def test_the_empty_word_and_the_empty_text(self):
        self.assertEqual(run(price, (), "", ""), 0)
        self.assertEqual(run(price, TABLE, "", ""), 0)
        self.assertEqual(run(price, TABLE, "", "aaa"), 6)
        self.assertEqual(run(price, TABLE, "aaaa", ""), 8)
        self.assertIsNone(run(price, TABLE, "", "b"))
        self.assertIsNone(run(price, TABLE, "b", ""))

    def test_without_a_fault(self):
        self.assertEqual(run(price, (), "abcdef", "abcdef"), 0)
        self.assertIsNone(run(price, (), "abcdef", "abcdee"))
        self.assertIsNone(run(price, (), "a", ""))

    def test_faults_do_not_work_on_what_faults_have_typed(self):
        self.assertIsNone(run(price, (("a", "b", 1), ("b", "c", 1)), "a", "c"))
        self.assertIsNone(run(price, (("", "a", 1), ("a", "b", 1)), "", "b"))
        self.assertEqual(run(price, (("a", "b", 1), ("ab", "ba", 1)), "ab", "bb"), 1)

    def test_the_dearer_way_at_first_may_be_the_cheaper_one(self):
        table = (("", "b", 1), ("a", "b", 5), ("a", "ba", 1))
        self.assertEqual(run(price, table, "a", "ba"), 1)
        self.assertEqual(run(price, (("a", "", 9), ("aa", "b", 9), ("b", "", 1)), "aab", "b"), 10)
        self.assertEqual(run(price, (("a", "", 1), ("ab", "b", 3)), "ab", "b"), 1)

    def test_words_of_twelve_letters_and_texts_of_sixteen(self):
        table = (("", "ff", 9), ("a", "", 9), ("a", "b", 1))
        self.assertEqual(run(price, table, "a" * 12, "b" * 12), 12)
        self.assertEqual(run(price, table, "a" * 12, ""), 108)
        self.assertEqual(run(price, table, "a" * 12, "b" * 12 + "ffff"), 30)
        self.assertEqual(run(price, table, "a" * 12, "f" * 16), 180)
        self.assertEqual(run(price, EIGHT, "abcabcabcabc", "abcabcabcabcabca"), 4)

    def test_long_words_that_were_returned(self):
        words = run(first_words, (8, (7,), tuple((state, "a", (state + 1) % 8) for state in range(8))), 50)
        self.assertEqual(run(price, TABLE, words[-1], words[-1]), 0)
        self.assertEqual(run(price, TABLE, words[-1], words[-3]), 32)
        self.assertEqual(price_of(run(cut, TABLE, words[-3], words[-1])), 32)
        self.assertIsNone(run(price, TABLE, words[-1], words[-1][:-1] + "c"))

    def test_every_word_and_text_of_some_tables(self):
        words = ["".join(word) for many in range(4) for word in itertools.product("abc", repeat=many)]
        for table in (TABLE, EIGHT):
            for word, text in itertools.product(words, repeat=2):
                self.assertEqual(run(price, table, word, text), least_price(table, word, text))

    def test_many_tables(self):
        chance = random.Random(18)
        for _ in range(3000):
            table = any_table(chance, "ab")
            word, text = any_word(chance, "ab", 5), any_word(chance, "ab", 5)
            self.assertEqual(run(price, table, word, text), least_price(table, word, text))
        for _ in range(300):
            table = any_table(chance, "abc")
            word, text = any_word(chance, "abc", 12), any_word(chance, "abc", 16)
            self.assertEqual(run(price, table, word, text), quick_price(table, word, text))

    def test_bad_values(self):
        self.assertEqual(refused_at(price, TABLE[::-1], "g", "g"), 0)
        self.assertEqual(refused_at(price, TABLE, "g", "g"), 1)
        self.assertEqual(refused_at(price, TABLE, "a", "g"), 2)


class Cut(unittest.TestCase):
    def check(self, table, word, text):
        """Check the cut of the word and the text by the words of [18] and [19]."""
        least = run(price, table, word, text)
        pieces = run(cut, table, word, text)
        if least is None:
            self.assertIsNone(pieces)
            return
        self.assertEqual("".join(piece[0] for piece in pieces), word)
        self.assertEqual("".join(piece[1] for piece in pieces), text)
        self.assertEqual(price_of(pieces), least)
        for meant, written, cost in pieces:
            is_kept = meant == written and len(meant) == 1 and cost == 0
            self.assertTrue(is_kept or (meant, written, cost) in table)

    def test_the_table_of_the_overview(self):
        self.assertEqual(run(cut, TABLE, "abc", "bac"), (("ab", "ba", 1), ("c", "c", 0)))
        self.assertEqual(run(cut, TABLE, "abc", "bc"), (("a", "", 2), ("b", "b", 0), ("c", "c", 0)))
        self.assertIsNone(run(cut, TABLE, "abc", "ccc"))

    def test_the_empty_word_and_the_empty_text(self):
        self.assertEqual(run(cut, (), "", ""), ())
        self.assertEqual(run(cut, TABLE, "", ""), ())
        self.assertEqual(run(cut, TABLE, "", "aa"), (("", "a", 2), ("", "a", 2)))
        self.assertEqual(run(cut, TABLE, "a", ""), (("a", "", 2),))
        self.assertIsNone(run(cut, (), "", "a"))

    def test_pieces_are_tuples_for_a_table_of_lists(self):
        for table in forms(TABLE):
            self.assertEqual(run(cut, table, "ab", "ba"), (("ab", "ba", 1),))

    def test_the_longest_words_and_texts(self):
        self.check(EIGHT, "abcabcabcabc", "abcabcabcabcabca")
        self.check(EIGHT, "", "abcabcabcabcabca")
        self.check(EIGHT, "abcabcabcabc", "")
        self.check(EIGHT, "abcabcabcabc", "dddddddddddddddd")

    def test_many_tables(self):
        chance = random.Random(19)
        for _ in range(1500):
            self.check(any_table(chance, "abc"), any_word(chance, "abc", 6), any_word(chance, "abc", 6))
            self.check(any_table(chance, "ab"), any_word(chance, "ab", 12), any_word(chance, "ab", 16))


class Typed(unittest.TestCase):
    def test_the_table_of_the_overview(self):
        self.assertEqual(run(typed, TABLE, "abc", 0), (("abc", 0),))
        self.assertEqual(run(typed, TABLE, "abc", 1), (("abc", 0), ("bac", 1)))
        self.assertEqual(
            run(typed, TABLE, "abc", 2),
            (("abc", 0), ("bac", 1), ("bc", 2), ("aabc", 2), ("abac", 2), ("abca", 2)))

    def test_by_price_then_by_length_then_by_letters(self):
        table = (("", "b", 1), ("", "ca", 1), ("a", "", 1))
        self.assertEqual(
            run(typed, table, "a", 1), (("a", 0), ("", 1), ("ab", 1), ("ba", 1), ("aca", 1), ("caa", 1)))

    def test_the_empty_word_and_the_empty_table(self):
        self.assertEqual(run(typed, (), "", 3), (("", 0),))
        self.assertEqual(run(typed, (), "abcdef", 3), (("abcdef", 0),))
        self.assertEqual(run(typed, (("", "f", 1),), "", 3), (("", 0), ("f", 1), ("ff", 2), ("fff", 3)))

    def test_a_word_of_six_letters_and_of_seven(self):
        table = (("a", "b", 3),)
        self.assertEqual(run(typed, table, "acacac", 3), (
            ("acacac", 0), ("acacbc", 3), ("acbcac", 3), ("bcacac", 3)))
        self.assertEqual(refused_at(typed, table, "acacaca", 3), 1)
        self.assertEqual(refused_at(typed, table, "acacaca", 4), 1)

    def test_prices_zero_three_and_four(self):
        for table in (TABLE, EIGHT, ()):
            self.assertEqual(run(typed, table, "aba", 0), (("aba", 0),))
            self.assertEqual(run(typed, table, "aba", 3), all_typed(table, "aba", 3))
            self.assertEqual(refused_at(typed, table, "aba", 4), 2)
            self.assertEqual(refused_at(typed, table, "aba", -1), 2)

    def test_exactly_the_texts_up_to_the_price(self):
        texts = ["".join(text) for many in range(7) for text in itertools.product("ab", repeat=many)]
        table = (("", "b", 2), ("a", "bb", 1), ("ba", "", 3))
        for word in ("", "a", "ab", "ba", "aba"):
            for most in range(4):
                prices = [(text, least_price(table, word, text)) for text in texts]
                expected = [row for row in prices if row[1] is not None and row[1] <= most]
                expected = tuple(sorted(expected, key=lambda row: (row[1], len(row[0]), row[0])))
                self.assertEqual(run(typed, table, word, most), expected)

    def test_many_tables(self):
        chance = random.Random(20)
        for _ in range(300):
            table, word = any_table(chance, "abc", 3), any_word(chance, "abc", 6)
            most = chance.randint(0, 3)
            found = run(typed, table, word, most)
            self.assertEqual(found, all_typed(table, word, most))
            for text, cost in found[:20]:
                self.assertEqual(run(price, table, word, text), cost)

    def test_very_many_texts(self):
        table = tuple(("", one + other, 1) for one in "ab" for other in "cdef")
        found = run(typed, table, "ababab", 3)
        self.assertEqual(len(dict(found)), len(found))
        self.assertEqual([cost for _, cost in found], sorted(cost for _, cost in found))
        self.assertEqual(found, all_typed(table, "ababab", 3))


if __name__ == "__main__":
    unittest.main()
