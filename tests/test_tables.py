"""[29] to [31], [6] and [7]: tables alike, what tells them apart, least tables."""

import itertools
import random
import unittest

from slipworth.machines import machine_of
from slipworth.mixups import mixup, strength
from slipworth.prices import is_table, price, typed
from slipworth.tables import is_alike, least_table, unlike
from tests.helper import forms, refused_at, run
from tests.test_machines import words_up_to
from tests.test_prices import any_table, least_price

TABLE = (("", "a", 2), ("a", "", 2), ("a", "b", 4), ("ab", "ba", 1))
EXAMPLE = (("", "b", 1), ("a", "", 1), ("a", "b", 2), ("ab", "b", 1))
EIGHT = (
    ("", "a", 1), ("", "b", 1), ("", "c", 1), ("a", "", 1), ("a", "b", 1), ("b", "", 1), ("b", "a", 1), ("c", "", 1))
# All faults but the first one are made up by it, and by letters kept.
MADE = (
    ("", "a", 1), ("", "aa", 2), ("a", "aa", 1), ("b", "ab", 3), ("b", "ba", 1), ("c", "ac", 2), ("c", "ca", 9),
    ("d", "ad", 1))


def is_made(table, fault):
    """Whether the other faults of the table give the fault's pieces its price or a lesser one."""
    others = [other for other in table if other != fault]
    made = least_price(others, fault[0], fault[1])
    return made is not None and made <= fault[2]


def differ(one, other, most=4, letters="ab"):
    """The least word and text with different prices, of at most so many letters together, by the words of [30]."""
    words = words_up_to(most, letters)
    for many in range(most + 1):
        for word, text in itertools.product(words, repeat=2):
            if len(word) + len(text) == many:
                prices = least_price(one, word, text), least_price(other, word, text)
                if prices[0] != prices[1]:
                    return (word, text) + prices
    return None


def nearly(chance, table):
    """The table with one price changed, one fault left out, or one put in."""
    way = chance.randrange(3)
    rows = {fault[:2]: fault[2] for fault in table}
    if way < 2 and rows:
        key = chance.choice(sorted(rows))
        if way:
            rows[key] = chance.randint(1, 9)
        else:
            del rows[key]
    elif len(rows) < 8:
        pieces = words_up_to(2, "ab")
        key = chance.choice(pieces), chance.choice(pieces)
        if key[0] != key[1]:
            rows[key] = chance.randint(1, 9)
    return tuple((*key, rows[key]) for key in sorted(rows))


def with_made_faults(chance, table):
    """A table alike, with more faults that others make up."""
    rows = {fault[:2]: fault[2] for fault in table}
    for meaning, written in chance.sample(list(itertools.product(words_up_to(2, "abc"), repeat=2)), 80):
        made = least_price(table, meaning, written)
        if len(rows) < 8 and meaning != written and (meaning, written) not in rows and made is not None and made < 9:
            rows[meaning, written] = chance.randint(made, 9)
    return tuple((*key, rows[key]) for key in sorted(rows))


class Unlike(unittest.TestCase):
    def check(self, one, other):
        """Check what unlike and is_alike tell of two tables; the answer is returned."""
        found = run(unlike, one, other)
        self.assertIs(run(is_alike, one, other), found is None)
        self.assertIs(run(is_alike, other, one), found is None)
        self.assertEqual(run(is_alike, one, other), run(least_table, one) == run(least_table, other))
        if found is None:
            self.assertIsNone(run(unlike, other, one))
        else:
            word, text, first, second = found
            self.assertNotEqual(first, second)
            self.assertEqual((price(one, word, text), price(other, word, text)), (first, second))
            self.assertIn((word, text), [fault[:2] for fault in one + other])
            self.assertEqual(run(unlike, other, one), (word, text, second, first))
        return found

    def test_a_table_and_itself(self):
        for table in ((), TABLE, EXAMPLE, EIGHT, MADE):
            self.assertIsNone(self.check(table, table))
            for one, other in itertools.product(forms(table), repeat=2):
                self.assertIs(run(is_alike, one, other), True)
                self.assertIsNone(run(unlike, one, other))

    def test_tables_that_differ_in_one_price(self):
        self.assertEqual(self.check((("a", "b", 1),), (("a", "b", 2),)), ("a", "b", 1, 2))
        self.assertEqual(self.check(TABLE, TABLE[:3] + (("ab", "ba", 2),)), ("ab", "ba", 1, 2))
        self.assertEqual(self.check(TABLE, (("", "a", 3),) + TABLE[1:]), ("", "a", 2, 3))
        # The fault is made up by others at the price 2: a greater price makes no difference.
        self.assertIsNone(self.check(EXAMPLE, EXAMPLE[:2] + (("a", "b", 9),) + EXAMPLE[3:]))
        self.assertEqual(self.check(EXAMPLE, EXAMPLE[:2] + (("a", "b", 1),) + EXAMPLE[3:]), ("a", "b", 2, 1))

    def test_tables_that_differ_in_one_fault(self):
        self.assertEqual(self.check((), (("a", "b", 5),)), ("a", "b", None, 5))
        self.assertEqual(self.check((("a", "b", 5),), ()), ("a", "b", 5, None))
        self.assertEqual(self.check((("a", "b", 5),), (("a", "c", 5),)), ("a", "b", 5, None))
        self.assertEqual(self.check(TABLE, TABLE[:3]), ("ab", "ba", 1, 4))
        self.assertEqual(self.check(TABLE, TABLE[:1] + TABLE[2:]), ("a", "", 2, None))
        self.assertEqual(self.check((TABLE[0], TABLE[3]), (TABLE[0], TABLE[1], TABLE[3])), ("a", "", None, 2))

    def test_tables_that_differ_in_a_fault_that_others_make_up(self):
        self.assertIsNone(self.check(EXAMPLE, EXAMPLE[:2]))
        self.assertIsNone(self.check(EXAMPLE, EXAMPLE[:3]))
        self.assertIsNone(self.check(EXAMPLE, EXAMPLE[:2] + EXAMPLE[3:]))
        self.assertEqual(self.check(EXAMPLE, EXAMPLE[1:]), ("", "b", 1, None))
        self.assertIsNone(self.check(MADE, MADE[:1]))
        self.assertIsNone(self.check((("a", "b", 1), ("aa", "bb", 2)), (("a", "b", 1), ("aa", "ab", 1))))

    def test_the_fewest_letters_then_the_least_word_then_the_least_text(self):
        one = (("", "ab", 1), ("a", "b", 1), ("ab", "", 1), ("b", "a", 1), ("b", "c", 1), ("bb", "aa", 1))
        self.assertEqual(self.check(one, ()), ("", "ab", 1, None))
        self.assertEqual(self.check(one[1:], ()), ("a", "b", 1, None))
        self.assertEqual(self.check(one[2:], ()), ("b", "a", 1, None))
        self.assertEqual(self.check(one[2:3] + one[4:], ()), ("b", "c", 1, None))
        self.assertEqual(self.check(one[2:3] + one[5:], ()), ("ab", "", 1, None))
        self.assertEqual(self.check(one[5:], ()), ("bb", "aa", 1, None))
        # The word ac comes behind b, as words are ordered, though not as Python orders strings.
        self.assertEqual(self.check((("ac", "b", 1), ("b", "ac", 1)), ()), ("b", "ac", 1, None))
        self.assertEqual(self.check((("b", "ac", 1),), (("ac", "b", 1),)), ("b", "ac", 1, None))
        self.assertEqual(self.check((("b", "ac", 1), ("b", "d", 1)), ()), ("b", "d", 1, None))
        self.assertEqual(self.check((("", "b", 1),), (("", "ac", 1),)), ("", "b", 1, None))
        self.assertEqual(self.check((("a", "", 1),), (("", "b", 1),)), ("", "b", None, 1))

    def test_the_least_word_and_text_of_all(self):
        chance = random.Random(36)
        alike = 0
        for _ in range(150):
            one = any_table(chance, "ab")
            other = chance.choice((nearly(chance, one), least_table(one), any_table(chance, "ab")))
            found = self.check(one, other)
            # Up to four letters together all words and texts are tried.
            self.assertEqual(found, differ(one, other))
            alike += found is None
        self.assertTrue(30 < alike < 120)

    def test_alike_means_the_same_prices_and_no_dearer_fault(self):
        chance = random.Random(37)
        for _ in range(600):
            one = any_table(chance, "ab")
            other = nearly(chance, with_made_faults(chance, one))
            pairs = [(fault, other) for fault in one] + [(fault, one) for fault in other]
            least = [(fault[2], least_price(table, fault[0], fault[1])) for fault, table in pairs]
            self.assertIs(run(is_alike, one, other), all(made is not None and made <= cost for cost, made in least))
            self.check(one, other)

    def test_tables_alike_type_the_same_texts_of_long_words(self):
        chance = random.Random(38)
        for _ in range(60):
            one = any_table(chance, "abc")
            other = with_made_faults(chance, one)
            self.assertIsNone(self.check(one, other))
            word = "".join(chance.choice("abc") for _ in range(5))
            self.assertEqual(typed(one, word, 3), typed(other, word, 3))
            self.assertEqual(price(one, word * 2, word[::-1] * 2), price(other, word * 2, word[::-1] * 2))

    def test_tables_alike_have_the_same_mixups(self):
        chance = random.Random(39)
        machine = machine_of(["ab", "ba", "abc", "cc"])
        for _ in range(60):
            one = any_table(chance, "abc", 3)
            other = with_made_faults(chance, one)
            self.assertEqual(run(mixup, one, machine, 2), run(mixup, other, machine, 2))
            self.assertEqual(run(strength, one, machine, 2), run(strength, other, machine, 2))

    def test_bad_values(self):
        nine = EIGHT + (("d", "", 1),)
        for function in (is_alike, unlike):
            self.assertEqual(refused_at(function, nine, nine), 0)
            self.assertEqual(refused_at(function, nine, EIGHT), 0)
            self.assertEqual(refused_at(function, EIGHT, nine), 1)
            self.assertEqual(refused_at(function, TABLE[::-1], TABLE), 0)
            self.assertEqual(refused_at(function, TABLE, TABLE[::-1]), 1)
            self.assertIsNone(refused_at(function, TABLE, EIGHT))


class LeastTable(unittest.TestCase):
    def check(self, table):
        """Check the least table by the words of [31] and [7]; it is returned."""
        least = run(least_table, table)
        self.assertIs(is_table(least), True)
        self.assertEqual(least, tuple(fault for fault in table if not is_made(table, fault)))
        self.assertEqual(run(least_table, least), least)
        self.assertIs(run(is_alike, table, least), True)
        for at in range(len(least)):
            self.assertIs(run(is_alike, table, least[:at] + least[at + 1:]), False)
        return least

    def test_the_table_of_the_overview(self):
        self.assertEqual(self.check(EXAMPLE), (("", "b", 1), ("a", "", 1)))
        self.assertEqual(self.check(TABLE), (("", "a", 2), ("a", "", 2), ("a", "b", 4), ("ab", "ba", 1)))

    def test_without_a_fault_and_with_eight_and_nine(self):
        self.assertEqual(self.check(()), ())
        self.assertEqual(self.check(EIGHT), EIGHT)
        self.assertEqual(refused_at(least_table, EIGHT + (("d", "", 1),)), 0)

    def test_all_faults_but_one_are_made_up_by_others(self):
        self.assertEqual(self.check(MADE), MADE[:1])
        self.assertEqual(self.check((("", "a", 5),)), (("", "a", 5),))
        self.assertEqual(self.check((("f", "", 4), ("ff", "", 8))), (("f", "", 4),))
        self.assertEqual(self.check((("f", "", 4), ("ff", "", 9))), (("f", "", 4),))

    def test_the_same_price_and_one_less(self):
        for cost, many in ((1, 3), (2, 2), (3, 2), (9, 2)):
            table = (("a", "", 1), ("aa", "", cost), ("b", "", 2))
            self.assertEqual(len(self.check(table)), many)
        self.assertEqual(self.check((("a", "b", 2), ("ac", "bc", 1))), (("a", "b", 2), ("ac", "bc", 1)))
        self.assertEqual(self.check((("a", "b", 2), ("ac", "bc", 2))), (("a", "b", 2),))
        self.assertEqual(self.check((("a", "b", 2), ("ac", "bd", 2))), (("a", "b", 2), ("ac", "bd", 2)))

    def test_a_fault_that_is_made_up_by_faults_that_are(self):
        table = (("", "a", 1), ("", "aa", 2), ("b", "", 1), ("b", "a", 2), ("b", "aa", 3), ("bb", "aa", 4))
        self.assertEqual(self.check(table), (("", "a", 1), ("b", "", 1)))

    def test_tuples_for_a_table_of_lists(self):
        for table in forms(EXAMPLE):
            self.assertEqual(run(least_table, table), (("", "b", 1), ("a", "", 1)))

    def test_many_tables(self):
        chance = random.Random(40)
        left = 0
        for _ in range(1500):
            table = any_table(chance, chance.choice(("a", "ab", "abc")))
            left += len(table) > len(self.check(table))
        self.assertGreater(left, 100)

    def test_every_table_alike_has_all_its_faults(self):
        chance = random.Random(41)
        for _ in range(300):
            table = any_table(chance, "ab")
            other = nearly(chance, with_made_faults(chance, table))
            if is_alike(table, other):
                for fault in self.check(table):
                    self.assertIn(fault, other)
                self.assertEqual(self.check(other), self.check(table))


if __name__ == "__main__":
    unittest.main()
