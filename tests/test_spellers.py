"""[37] to [39] and [11]: spellers."""

import itertools
import random
import unittest

from slipworth.errors import BadValue, Mixed, NotMeant, NoWord
from slipworth.marking import marks, shared, sharing
from slipworth.prices import price, typed
from slipworth.spellers import Speller
from tests.helper import NOTHINGS, as_lists, forms, nested, refused_at, run
from tests.test_machines import words_up_to
from tests.test_marking import EIGHT, PUT_IN, STAR, both_typed, by_length, graph_words
from tests.test_prices import any_table, any_word

TABLE = (("", "a", 2), ("a", "", 2), ("a", "b", 4), ("ab", "ba", 1))
TWELVE = ("", "a", "b", "c", "d", "e", "f", "aa", "abcdef", "fedcba", "ffffff", "ab")


class Model:
    """The words that are in, and what each call does to them, by the words of [37] to [39]."""

    def __init__(self, table, most):
        self.table, self.most, self.kept = table, most, []

    def mixed(self, table, pairs):
        """The second word and the text of the first of these pairs that shares one, None if none does."""
        for one, other in pairs:
            found = both_typed(table, one, other, self.most)
            if found:
                return one, other, found[0]
        return None

    def put(self, word):
        if word in self.kept:
            return None
        found = self.mixed(self.table, [(other, word) for other in self.kept])
        if found:
            return Mixed, found[0], found[2]
        self.kept = sorted(self.kept + [word], key=by_length)
        return None

    def take(self, word):
        if word not in self.kept:
            return NoWord, word
        self.kept.remove(word)
        return None

    def read(self, text):
        prices = [(word, price(self.table, word, text)) for word in self.kept]
        found = [row for row in prices if row[1] is not None and row[1] <= self.most]
        assert len(found) < 2
        return found[0] if found else (NotMeant, text)

    def retable(self, table):
        found = self.mixed(table, itertools.combinations(self.kept, 2))
        if found:
            return Mixed, found[1], found[2]
        self.table = table
        return None


def answer(function, *given):
    """What the call returns, or the error's class and attributes."""
    try:
        return run(function, *given)
    except Mixed as error:
        return Mixed, error.word, error.text
    except NoWord as error:
        return NoWord, error.word
    except NotMeant as error:
        return NotMeant, error.text
    except BadValue as error:
        return BadValue, error.at


def speller_with(table, most, words):
    speller = Speller(table, most)
    for word in words:
        assert run(speller.put, word) is None
    return speller


class Checked(unittest.TestCase):
    def check_state(self, speller, words):
        """Check that the speller has just these words."""
        ordered = tuple(sorted(words, key=by_length))
        self.assertEqual(run(speller.words), ordered)
        self.assertEqual(len(speller), len(ordered))
        self.assertIs(type(len(speller)), int)
        for word in ordered:
            self.assertIs(word in speller, True)

    def check_refused(self, expected, speller, method, *given):
        """Check that the call is refused so, and that words and table are then as they were."""
        texts = words_up_to(2, "abc") + list(speller.words())
        before = speller.words(), [answer(speller.read, text) for text in texts]
        self.assertEqual(answer(getattr(speller, method), *given), expected)
        self.assertEqual((speller.words(), [answer(speller.read, text) for text in texts]), before)


class Words(Checked):
    def test_a_new_speller_has_no_word(self):
        for table in ((), TABLE, EIGHT):
            for most in range(4):
                speller = Speller(table, most)
                self.check_state(speller, [])
                self.assertIs("" in speller, False)
                self.assertEqual(answer(speller.read, ""), (NotMeant, ""))

    def test_put_take_and_put_again(self):
        speller = Speller(TABLE, 1)
        self.assertIsNone(run(speller.put, "ba"))
        self.check_state(speller, ["ba"])
        self.assertIsNone(run(speller.put, word="c"))
        self.check_state(speller, ["ba", "c"])
        self.assertIsNone(run(speller.put, "c"))
        self.check_state(speller, ["ba", "c"])
        self.check_refused((Mixed, "ba", "ba"), speller, "put", "ab")
        self.assertIsNone(run(speller.take, "ba"))
        self.check_state(speller, ["c"])
        self.assertIs("ba" in speller, False)
        self.assertIsNone(run(speller.put, "ab"))
        self.check_state(speller, ["ab", "c"])
        self.check_refused((Mixed, "ab", "ba"), speller, "put", "ba")
        self.assertIsNone(run(speller.take, word="ab"))
        self.assertIsNone(run(speller.take, "c"))
        self.check_state(speller, [])
        self.check_refused((NoWord, "c"), speller, "take", "c")
        self.assertIsNone(run(speller.put, "ba"))
        self.check_state(speller, ["ba"])

    def test_words_are_ascending_by_length_then_by_letters(self):
        for seed in range(5):
            mixed = random.Random(seed).sample(TWELVE, 12)
            speller = speller_with((), 3, mixed)
            self.check_state(speller, TWELVE)
            self.assertEqual(speller.words()[:8], ("", "a", "b", "c", "d", "e", "f", "aa"))

    def test_words_that_were_told_do_not_change(self):
        speller = speller_with((), 3, ["b"])
        told = speller.words()
        speller.put("a")
        self.assertEqual(told, ("b",))

    def test_the_first_word_in_order_is_told_with_the_least_text(self):
        # c shares a text with all of these, which share none with one another.
        table = (("c", "a", 1), ("c", "b", 1), ("c", "dd", 1), ("c", "ee", 1))
        for mixed in itertools.permutations(("dd", "b", "ee", "a")):
            speller = speller_with(table, 1, mixed)
            for word in ("a", "b", "dd", "ee"):
                self.check_refused((Mixed, word, word), speller, "put", "c")
                speller.take(word)
            self.assertIsNone(run(speller.put, "c"))
        table = (("a", "f", 1), ("a", "fe", 1), ("c", "f", 2), ("c", "fe", 1))
        self.check_refused((Mixed, "a", "fe"), speller_with(table, 1, ["a"]), "put", "c")
        self.check_refused((Mixed, "a", "f"), speller_with(table, 2, ["a"]), "put", "c")

    def test_words_that_share_only_the_empty_text(self):
        speller = speller_with(STAR, 1, ["", "ab"])
        for word in "abcdef":
            self.check_refused((Mixed, "", ""), speller, "put", word)
        speller.take("")
        self.check_refused((Mixed, "ab", "a"), speller, "put", "a")
        self.assertIsNone(run(speller.put, "c"))
        self.check_refused((Mixed, "c", ""), speller, "put", "d")

    def test_words_of_six_letters_and_of_seven(self):
        speller = speller_with(TABLE, 1, ["abcdef"])
        for wrong in ("abcdefa", "aaaaaaa", "a" * 12, "g", "A", "a b", 1, True, None, ("a",), ["a"]):
            self.check_refused((BadValue, 0), speller, "put", wrong)
        self.check_refused((NoWord, "abcdefa"), speller, "take", "abcdefa")

    def test_prices_zero_three_and_four(self):
        for most, fits in ((-1, False), (0, True), (3, True), (4, False), (True, False), (False, False), ("1", False)):
            if fits:
                self.assertEqual(len(Speller(TABLE, most)), 0)
                self.assertEqual(len(Speller(most=most, table=TABLE)), 0)
            else:
                with self.assertRaises(BadValue) as caught:
                    Speller(TABLE, most)
                self.assertEqual(caught.exception.at, 1)
        speller = speller_with(TABLE, 0, words_up_to(1, "abcdef"))
        self.assertEqual(len(speller), 7)
        self.assertEqual(answer(speller_with((("a", "b", 3),), 3, "a").put, "b"), (Mixed, "a", "b"))
        self.assertIsNone(answer(speller_with((("a", "b", 3),), 2, "a").put, "b"))

    def test_no_table_and_no_price(self):
        for wrong in NOTHINGS + (0, "", TABLE[::-1], EIGHT + (("f", "", 1),)):
            for most in (1, 4, None):
                with self.assertRaises(BadValue) as caught:
                    Speller(wrong, most)
                self.assertEqual(caught.exception.at, 0)

    def test_twelve_words(self):
        speller = speller_with(TABLE, 1, TWELVE[:-1] + ("ba",))
        self.check_state(speller, TWELVE[:-1] + ("ba",))
        self.check_refused((Mixed, "ba", "ba"), speller, "put", "ab")
        self.assertIsNone(run(speller.put, "ba"))
        self.assertEqual(len(speller), 12)

    def test_what_is_in(self):
        speller = speller_with(TABLE, 1, ["a", "ab", ""])
        for word in ("a", "ab", ""):
            self.assertIs(word in speller, True)
        for value in NOTHINGS + (
                0, 1, "b", "A", "ba", "a ", "g", "a" * 5000, (), [], ("a",), ["a"], [["ab"]], nested(20, "a"), [0] * 5000):
            for form in forms(value) + (value,):
                self.assertIs(form in speller, False)
                self.check_refused((NoWord, form), speller, "take", form)

    def test_the_very_thing_that_is_not_in_is_told(self):
        speller = Speller((), 0)
        for value in (["a", ["b"]], ("a",), None, True, 5, "ab", "", nested(20)):
            with self.assertRaises(NoWord) as caught:
                speller.take(value)
            self.assertIs(caught.exception.word, value)
        text = "".join(["abc", "def"])
        with self.assertRaises(NotMeant) as caught:
            speller.read(text)
        self.assertIs(caught.exception.text, text)


class Read(Checked):
    def test_the_table_of_the_overview(self):
        speller = speller_with(TABLE, 2, ["ab", "c"])
        for text, expected in (
                ("ab", ("ab", 0)), ("ba", ("ab", 1)), ("b", ("ab", 2)), ("aab", ("ab", 2)), ("c", ("c", 0)),
                ("ac", ("c", 2)), ("", (NotMeant, "")), ("abc", (NotMeant, "abc")), ("bb", (NotMeant, "bb"))):
            self.assertEqual(answer(speller.read, text), expected)
            self.assertEqual(run(speller.read, text="ba"), ("ab", 1))

    def test_each_text_of_each_word(self):
        for table, words in ((EIGHT, ("abcdef", "ffffff", "bbbbbb")), (PUT_IN, ("ababab", "fedcba")), (STAR, ("aaa",))):
            speller = speller_with(table, 3, words)
            for word in words:
                rows = typed(table, word, 3)
                for text, cost in rows[:2000] + rows[-50:]:
                    self.assertEqual(speller.read(text), (word, cost))

    def test_texts_up_to_sixteen_letters_and_longer_ones(self):
        speller = speller_with((("", "ff", 1),), 3, ["abcdef", ""])
        self.assertEqual(run(speller.read, "ffabffcdffef"), ("abcdef", 3))
        self.assertEqual(run(speller.read, "ffffff"), ("", 3))
        for text in ("ffabffcdffefff", "f" * 16, "abcdefabcdefabcd", "f" * 17, "abcdef" * 100):
            self.check_refused((NotMeant, text), speller, "read", text)

    def test_what_is_no_text(self):
        speller = speller_with(TABLE, 1, ["a"])
        for wrong in NOTHINGS + (0, 1, "g", "A", "a b", "a\n", (), [], ("a",), ["a"], "-"):
            self.check_refused((BadValue, 0), speller, "read", wrong)

    def test_texts_of_words_that_were_taken_out(self):
        speller = speller_with(TABLE, 2, ["ab", "c"])
        speller.take("ab")
        self.assertEqual(answer(speller.read, "ba"), (NotMeant, "ba"))
        self.assertEqual(run(speller.put, "b"), None)
        self.assertEqual(run(speller.read, "ba"), ("b", 2))

    def test_a_text_of_a_word_that_was_refused(self):
        speller = speller_with((("a", "b", 1), ("a", "c", 1)), 1, ["b"])
        self.check_refused((Mixed, "b", "b"), speller, "put", "a")
        self.assertEqual(answer(speller.read, "c"), (NotMeant, "c"))
        self.assertEqual(answer(speller.read, "a"), (NotMeant, "a"))


class Retable(Checked):
    def test_a_table_that_is_refused_and_one_that_is_not(self):
        speller = speller_with((), 1, ["a", "b", "c"])
        self.check_refused((Mixed, "c", "c"), speller, "retable", (("b", "c", 1),))
        self.assertIsNone(run(speller.retable, (("a", "d", 1), ("b", "c", 2))))
        self.assertEqual(run(speller.read, "d"), ("a", 1))
        self.assertEqual(run(speller.read, "c"), ("c", 0))
        self.check_refused((Mixed, "a", "d"), speller, "put", "d")
        self.assertIsNone(run(speller.retable, table=()))
        self.assertEqual(answer(speller.read, "d"), (NotMeant, "d"))
        self.assertIsNone(run(speller.put, "d"))
        self.check_state(speller, ["a", "b", "c", "d"])

    def test_the_second_word_of_the_first_pair_is_told(self):
        # The pairs by their order: (a, bb), (b, aa), (aa, bb).
        table = (("a", "f", 1), ("aa", "e", 1), ("b", "d", 1), ("bb", "e", 1))
        for more, expected in (
                ((("bb", "f", 1),), ("bb", "f")), ((("aa", "d", 1),), ("aa", "d")), ((), ("bb", "e")),
                ((("aa", "d", 1), ("bb", "f", 1)), ("bb", "f"))):
            for mixed in itertools.permutations(("bb", "b", "a", "aa", "c")):
                speller = speller_with((), 1, mixed)
                self.check_refused((Mixed,) + expected, speller, "retable", tuple(sorted(table + more)))

    def test_no_table(self):
        speller = speller_with(TABLE, 1, ["ab", "c"])
        for wrong in NOTHINGS + (0, "", "ab", TABLE[::-1], (("a", "a", 1),), EIGHT + (("f", "", 1),), [["b", "c", 0]]):
            for form in forms(wrong) + (wrong,):
                self.check_refused((BadValue, 0), speller, "retable", form)

    def test_without_words_every_table_will_do(self):
        speller = Speller((), 3)
        for table in (PUT_IN, STAR, EIGHT, ()):
            self.assertIsNone(run(speller.retable, table))
        speller = speller_with((), 3, ["aaa"])
        for table in (PUT_IN, STAR, EIGHT, ()):
            self.assertIsNone(run(speller.retable, table))
            for text, cost in typed(table, "aaa", 3)[:100]:
                self.assertEqual(run(speller.read, text), ("aaa", cost))

    def test_at_the_bounds(self):
        words = ("ababab", "bababa", "aaabbb", "bbbaaa", "aabbaa", "bbaabb", "abbbba", "aaaaaa", "bbbbbb", "cdcdcd", "dcdcdc",
                 "efefef")
        speller = speller_with(PUT_IN, 3, words)
        self.check_state(speller, words)
        self.assertIsNone(run(speller.retable, tuple((one + other, "", 1) for one in "ab" for other in "cdef")))
        self.assertEqual(answer(speller.retable, STAR), (Mixed, "aaabbb", "aaa"))
        self.check_state(speller, words)
        self.assertIsNone(run(speller.retable, PUT_IN))

    def test_a_table_of_lists_that_is_changed_behind_the_call(self):
        table = as_lists(TABLE)
        speller = speller_with(table, 1, ["ab"])
        table[3][2] = 9
        table[0][1] = "f"
        self.assertEqual(run(speller.read, "ba"), ("ab", 1))
        self.assertEqual(answer(speller.put, "ba"), (Mixed, "ab", "ba"))
        table.clear()
        self.assertEqual(answer(speller.put, "ba"), (Mixed, "ab", "ba"))
        table = as_lists(TABLE)
        self.assertIsNone(run(speller.retable, table))
        table[3][2] = 9
        table.clear()
        self.assertIsNone(run(speller.put, "c"))
        self.assertEqual(run(speller.read, "ba"), ("ab", 1))
        self.assertEqual(answer(speller.put, "ba"), (Mixed, "ab", "ba"))


class Spellers(Checked):
    def test_two_beside_one_another(self):
        table = as_lists(TABLE)
        one, other, third = Speller(table, 1), Speller(table, 2), Speller((), 1)
        one.put("ab")
        other.put("b")
        third.put("ba")
        self.check_state(one, ["ab"])
        self.check_state(other, ["b"])
        self.assertIs("ab" in other, False)
        self.assertEqual(answer(other.put, "ab"), (Mixed, "b", "b"))
        self.assertIsNone(run(one.put, "b"))
        one.retable(())
        self.assertIsNone(run(one.put, "ba"))
        self.assertEqual(answer(other.put, "ab"), (Mixed, "b", "b"))
        other.take("b")
        self.check_state(one, ["b", "ab", "ba"])
        self.check_state(other, [])
        self.check_state(third, ["ba"])
        self.assertIs(one == other, False)

    def test_any_calls_one_after_the_other(self):
        chance = random.Random(37)
        met = {}
        for _ in range(250):
            letters = chance.choice(("ab", "abc"))
            most = chance.randint(0, 3)
            pairs = []
            for _ in range(2):
                table = any_table(chance, letters, 3)
                pairs.append((Speller(table, most), Model(table, most)))
            for _ in range(30):
                speller, model = chance.choice(pairs)
                method = chance.choice(("put", "put", "put", "take", "read", "read", "retable"))
                if method == "retable":
                    given = any_table(chance, letters, 3)
                elif method == "take" and model.kept and chance.random() < 0.6:
                    given = chance.choice(model.kept)
                else:
                    given = any_word(chance, letters, 4)
                if method != "put" or len(speller) < 12:
                    expected = getattr(model, method)(given)
                    self.assertEqual(answer(getattr(speller, method), given), expected)
                    is_refused = expected is not None and expected[0] in (Mixed, NoWord, NotMeant)
                    met[method, is_refused] = met.get((method, is_refused), 0) + 1
                for one, kept in pairs:
                    self.check_state(one, kept.kept)
        self.assertEqual(len(met), 8)
        self.assertGreater(min(met.values()), 40, met)

    def test_words_can_all_be_put_in_exactly_if_no_two_share_a_text(self):
        chance = random.Random(38)
        seen = [0, 0]
        for _ in range(250):
            table, words, most = graph_words(chance)
            if chance.random() < 0.5:
                words = words[:3]
            pairs = run(sharing, table, words, most)
            sequences = list(itertools.permutations(words)) if len(words) < 4 else [
                chance.sample(words, len(words)) for _ in range(3)]
            for mixed in sequences:
                speller = Speller(table, most)
                kept = []
                for word in mixed:
                    refused = answer(speller.put, word)
                    others = [other for other in sorted(kept, key=by_length) if shared(table, other, word, most)]
                    if others:
                        self.assertEqual(refused, (Mixed, others[0], shared(table, others[0], word, most)[0]))
                    else:
                        self.assertIsNone(refused)
                        kept.append(word)
                self.check_state(speller, kept)
                self.assertEqual(len(speller) == len(words), pairs == ())
                self.assertEqual(set(marks(table, words, most)) == {0}, pairs == ())
            seen[pairs == ()] += 1
            speller = speller_with((), most, words)
            refused = answer(speller.retable, table)
            self.assertEqual(refused is None, pairs == ())
        self.assertGreater(min(seen), 30)

    def test_what_is_read_against_price(self):
        chance = random.Random(39)
        for _ in range(60):
            table, words, most = graph_words(chance)
            speller = Speller(table, most)
            for word in words:
                answer(speller.put, word)
            for text in words_up_to(3, "abc"):
                prices = {word: price(table, word, text) for word in speller.words()}
                found = [(word, cost) for word, cost in prices.items() if cost is not None and cost <= most]
                self.assertLess(len(found), 2)
                self.assertEqual(answer(speller.read, text), found[0] if found else (NotMeant, text))

    def test_equal_calls_in_equal_states(self):
        one, other = speller_with(TABLE, 1, ["ab", "c"]), speller_with(as_lists(TABLE), 1, ["c", "a", "ab"][::2])
        for text in words_up_to(3, "abc"):
            self.assertEqual(answer(one.read, text), answer(other.read, text))
            self.assertEqual(answer(one.put, text), answer(other.put, text))
        self.assertEqual(one.words(), other.words())

    def test_lists_for_tuples(self):
        for table in forms(TABLE):
            speller = speller_with(table, 1, ["ab"])
            self.assertEqual(answer(speller.put, "ba"), (Mixed, "ab", "ba"))
            speller = speller_with((), 1, ["ab"])
            self.assertIsNone(refused_at(speller.retable, table))
            self.assertEqual(answer(speller.put, "ba"), (Mixed, "ab", "ba"))


if __name__ == "__main__":
    unittest.main()
