"""The guarantees [1] to [12] over the whole program: its answers against one another."""

import doctest
import itertools
import random
import unittest

from slipworth.errors import Mixed
from slipworth.machines import first_words, least_machine, machine_of, tells
from slipworth.marking import marks, paper, paper_holds, shared, sharing
from slipworth.meanings import meant, within
from slipworth.mixups import is_told, mixup, stands, stands_hold, strength
from slipworth.prices import cut, is_table, price, typed
from slipworth.spellers import Speller
from slipworth.tables import is_alike, least_table, unlike
from slipworth.texts import parse, printed
from tests.helper import as_lists, run
from tests.test_machines import any_machine, renumbered, words_up_to
from tests.test_marking import graph_words
from tests.test_prices import any_table
from tests.test_spellers import answer
from tests.test_tables import nearly, with_made_faults

# The example of the overview, as it stands there.
EXAMPLE = '''
    >>> from slipworth.prices import price
    >>> from slipworth.mixups import mixup, strength
    >>> from slipworth.tables import least_table
    >>> table = (("", "a", 2), ("a", "", 2), ("a", "b", 4), ("ab", "ba", 1))
    >>> price(table, "abc", "bac"), price(table, "abc", "bc"), price(table, "abc", "ccc")
    (1, 2, None)
    >>> machine = (3, (2,), ((0, "a", 1), (1, "b", 2), (2, "a", 2)))
    >>> mixup(table, machine, 2)
    ('ab', 'ab', 'aba', 0, 2)
    >>> strength(table, machine, 2)
    1
    >>> least_table((("", "b", 1), ("a", "", 1), ("a", "b", 2), ("ab", "b", 1)))
    (('', 'b', 1), ('a', '', 1))
'''


def same_machines(chance, machine):
    """Machines that tell the same words as this one."""
    order = [0] + chance.sample(range(1, machine[0]), machine[0] - 1)
    found = [least_machine(machine), renumbered(machine, order)]
    count, ends, moves = machine
    if count < 8:
        # A state from which no word can be ended, and one that is not reached.
        missing = [letter for letter in "abcdef" if (0, letter) not in [move[:2] for move in moves]]
        dead = [(0, missing[0], count)] if missing else []
        found.append((count + 1, ends, tuple(sorted(moves + tuple(dead) + ((count, "f", count),)))))
        found.append((count + 1, ends + (count,), tuple(sorted(moves + ((count, "a", 0),)))))
    return found


def put_all(table, most, words):
    """What a speller answers to the words put in one after the other, and the words that are in then."""
    speller = Speller(table, most)
    told = [answer(speller.put, word) for word in words]
    return told, speller.words()


class Overview(unittest.TestCase):
    def test_the_example_whole(self):
        example = doctest.DocTestParser().get_doctest(EXAMPLE, {}, "overview", None, 0)
        self.assertEqual(len(example.examples), 9)
        self.assertEqual(doctest.DocTestRunner(verbose=False).run(example), (0, 9))

    def test_the_tables_and_the_machine_of_the_example_elsewhere(self):
        table = (("", "a", 2), ("a", "", 2), ("a", "b", 4), ("ab", "ba", 1))
        machine = (3, (2,), ((0, "a", 1), (1, "b", 2), (2, "a", 2)))
        self.assertEqual(parse(printed(table)), table)
        words = first_words(machine, 7)[:5]
        self.assertEqual(sharing(table, words, 2), ((0, 1), (0, 2), (1, 2), (1, 3), (2, 3), (2, 4), (3, 4)))
        self.assertEqual(sharing(table, words, 1), ())
        self.assertEqual(marks(table, words, 2), (0, 1, 2, 0, 1))
        self.assertIs(paper_holds(table, words, 2, 2, paper(table, words, 2)), True)
        self.assertEqual(put_all(table, 2, words)[1], ("ab", "abaaa"))


class Alike(unittest.TestCase):
    """Tables that are alike, and machines that tell the same words, have the same answers."""

    def check_words(self, one, other, words, most):
        for function in (sharing, marks):
            self.assertEqual(run(function, one, words, most), run(function, other, words, most))
        self.assertEqual(put_all(one, most, words), put_all(other, most, words))
        count = len(set(marks(one, words, most))) - 1
        self.assertIs(run(paper_holds, one, words, most, count, paper(other, words, most)), True)
        for first, second in itertools.product(words[:3], repeat=2):
            self.assertEqual(run(shared, one, first, second, most), run(shared, other, first, second, most))

    def check_machine(self, one, other, machine, same):
        for most in range(3):
            self.assertEqual(run(mixup, one, machine, most), run(mixup, other, same, most))
            self.assertEqual(run(strength, one, machine, most), run(strength, other, same, most))
            self.assertEqual(run(is_told, one, machine, most), run(is_told, other, same, most))
            self.assertEqual(stands(one, machine, most) is None, stands(other, same, most) is None)
        for text in words_up_to(2, "abc") + ["abab", "abcabc"]:
            self.assertEqual(run(within, one, machine, text, 3), run(within, other, same, text, 3))
            self.assertEqual(run(meant, one, machine, text, 3), run(meant, other, same, text, 3))

    def test_tables_alike(self):
        chance = random.Random(6)
        grown = 0
        for _ in range(120):
            table, words, most = graph_words(chance)
            for other in (with_made_faults(chance, table), least_table(table)):
                grown += other != table
                self.assertIs(run(is_alike, table, other), True)
                self.assertEqual(least_table(table), least_table(other))
                self.check_words(table, other, words, most)
                machine = any_machine(chance, chance.randint(1, 5), "abc")
                self.check_machine(table, other, machine, machine)
        self.assertGreater(grown, 20)

    def test_tables_that_are_not_alike_differ_where_unlike_tells(self):
        chance = random.Random(7)
        met = 0
        for _ in range(400):
            table = any_table(chance, "ab", 3)
            other = nearly(chance, table)
            found = run(unlike, table, other)
            if found is not None:
                word, text, first, second = found
                least = min(cost for cost in (first, second) if cost is not None)
                if least <= 3:
                    met += 1
                    told = [(text, cost) in typed(some, word, least) for some in (table, other) for cost in [least]]
                    self.assertEqual(sorted(told), [False, True])
                    machine = machine_of([word])
                    told = [within(some, machine, text, least) for some in (table, other)]
                    self.assertEqual(sorted(told), [(), ((word, least),)])
        self.assertGreater(met, 100)

    def test_machines_that_tell_the_same_words(self):
        chance = random.Random(8)
        for _ in range(60):
            table, machine = any_table(chance, "abc", 2), any_machine(chance, chance.randint(2, 6), "abc")
            for same in same_machines(chance, machine):
                self.assertEqual(least_machine(same), least_machine(machine))
                self.assertEqual(first_words(same, 20), first_words(machine, 20))
                self.check_machine(table, table, machine, same)
                proof = stands(table, same, 2)
                if proof is not None:
                    self.assertIs(stands_hold(table, same, 2, proof), True)


class OneAnother(unittest.TestCase):
    def test_marks_sharing_shared_and_typed(self):
        chance = random.Random(9)
        for _ in range(150):
            table, words, most = graph_words(chance)
            pairs = run(sharing, table, words, most)
            texts = [dict(run(typed, table, word, most)) for word in words]
            for i, j in itertools.combinations(range(len(words)), 2):
                both = [text for text in texts[i] if text in texts[j]]
                found = run(shared, table, words[i], words[j], most)
                self.assertEqual(((i, j) in pairs, found is not None), (bool(both), bool(both)))
                if both:
                    text = min(both, key=lambda text: (len(text), text))
                    self.assertEqual(found, (text, texts[i][text], texts[j][text]))
                    for word, cost in zip((words[i], words[j]), found[1:]):
                        self.assertEqual(sum(piece[2] for piece in cut(table, word, text)), cost)
            given = run(marks, table, words, most)
            self.assertTrue(all(given[i] != given[j] for i, j in pairs))

    def test_papers_against_marks(self):
        chance = random.Random(10)
        for _ in range(150):
            table, words, most = graph_words(chance)
            fewest = len(set(run(marks, table, words, most)))
            text = run(paper, table, words, most)
            self.assertIs(run(paper_holds, table, words, most, fewest - 1, text), True)
            self.assertEqual(run(paper, as_lists(table), list(words), most), text)

    def test_told_words_are_those_of_which_no_two_share_a_text(self):
        chance = random.Random(11)
        met = set()
        for _ in range(300):
            table = any_table(chance, "abc", 2)
            words = chance.sample(words_up_to(2, "abc"), chance.randint(1, 4))
            most = chance.randint(0, 2)
            found = run(mixup, table, machine_of(words), most)
            pairs = run(sharing, table, words, most)
            met.add(pairs == ())
            self.assertEqual(run(is_told, table, machine_of(words), most), pairs == ())
            texts = [run(shared, table, words[i], words[j], most)[0] for i, j in pairs]
            self.assertEqual(found and found[0], min(texts, key=lambda text: (len(text), text)) if texts else None)
            told, kept = put_all(table, most, words)
            self.assertEqual(kept == tuple(sorted(words, key=lambda word: (len(word), word))), pairs == ())
            self.assertEqual([row for row in told if row is not None] == [], pairs == ())
            if found:
                self.assertIn(Mixed, [row[0] for row in told if row])
        self.assertEqual(met, {True, False})

    def test_spellers_against_meanings(self):
        chance = random.Random(12)
        for _ in range(100):
            table = any_table(chance, "abc", 3)
            words = chance.sample(words_up_to(2, "abc"), chance.randint(1, 4))
            speller = Speller(table, 3)
            for word in words:
                answer(speller.put, word)
            machine = machine_of(speller.words())
            for text in words_up_to(3, "abc")[::2]:
                rows = within(table, machine, text, 3)
                self.assertLess(len(rows), 2)
                told = answer(speller.read, text)
                self.assertEqual(told if rows else None, rows[0] if rows else None)
                if rows:
                    self.assertEqual(meant(table, machine, text, 3), (told[1], (told[0],)))
                    self.assertIs(tells(machine, told[0]), True)
                    self.assertEqual(price(table, told[0], text), told[1])

    def test_parse_against_printed_and_is_table(self):
        chance = random.Random(13)
        for _ in range(300):
            table = any_table(chance, chance.choice(("ab", "abcdef")))
            for form in (table, as_lists(table)):
                told = run(parse, run(printed, form))
                self.assertEqual(told, table)
                self.assertIs(run(is_table, told), True)
                self.assertEqual(run(printed, told), run(printed, form))
            self.assertEqual(parse(printed(least_table(table))), least_table(table))


if __name__ == "__main__":
    unittest.main()
