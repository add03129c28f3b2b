"""[32] to [36], [8] and [9]: words that share texts, the fewest marks, papers."""

import functools
import itertools
import random
import re
import unittest

from slipworth.errors import BadPaper
from slipworth.marking import marks, paper, paper_holds, shared, sharing
from slipworth.prices import price, typed
from tests.helper import NOTHINGS, forms, nested, refused_at, run
from tests.test_machines import words_up_to
from tests.test_prices import all_typed, any_table, any_word, least_price

TABLE = (("", "a", 2), ("a", "", 2), ("a", "b", 4), ("ab", "ba", 1))
WORDS = ("ab", "aba", "ba", "c")
# By one fault, a and d share d, d and e share e, b and e share b: no others share a text.
PATH = (("a", "d", 1), ("d", "e", 1), ("e", "b", 1))
# By one fault each two of these share a text, but for a, b and c.
STAR = tuple((letter, "", 1) for letter in "abcdef")
EIGHT = (
    ("", "ab", 1), ("", "bc", 1), ("", "cd", 1), ("", "de", 1), ("a", "", 1), ("b", "a", 2), ("cc", "f", 1),
    ("ef", "fe", 1))
# Very many texts: each of these can be put in anywhere.
PUT_IN = tuple(("", one + other, 1) for one in "ab" for other in "cdef")
SEVEN = ("ababab", "bababa", "abcdef", "fedcba", "aaaaaa", "aaabbb", "efefef")


def by_length(text):
    return (len(text), text)


@functools.lru_cache(64)
def texts_of(table, word, most):
    """The texts up to a price, each with its price."""
    return dict(typed(table, word, most))


def both_typed(table, one, other, most):
    """The least text of two words, with its prices, from all cuts of both up to the price."""
    first, second = dict(all_typed(table, one, most)), dict(all_typed(table, other, most))
    texts = sorted(set(first) & set(second), key=by_length)
    return (texts[0], first[texts[0]], second[texts[0]]) if texts else None


def pairs_of(table, words, most):
    """The pairs of numbers of words that share a text, each with all the texts."""
    texts = [texts_of(table, word, most) for word in words]
    found = {}
    for i, j in itertools.combinations(range(len(words)), 2):
        both = sorted(set(texts[i]) & set(texts[j]), key=by_length)
        if both:
            found[i, j] = both
    return found


def least_marks(pairs, many):
    """The first tuple with the fewest marks, of all tuples there are."""
    fits = [
        row for row in itertools.product(range(many), repeat=many)
        if all(row[i] != row[j] for i, j in pairs)]
    return min(fits, key=lambda row: (len(set(row)), row))


def free_marks(pairs, many):
    """What the first free mark for each word in turn gives."""
    given = []
    for word in range(many):
        taken = [given[other] for other in range(word) if (other, word) in pairs]
        given.append(min(set(range(many)) - set(taken)))
    return tuple(given)


class WrongLine(Exception):
    """The number of the first wrong line of a paper."""


class PaperReading:
    """A paper, read entry by entry by the words of [35]."""

    def __init__(self, table, words, most, count, text):
        self.words, self.count = words, count
        self.texts = [texts_of(table, word, most) for word in words]
        self.lines = text.split("\n")
        if not self.lines[-1]:
            self.lines.pop()

    def wrong_line(self):
        """The number of the first wrong line, None if the paper is right."""
        try:
            behind = self.entry(0, [])
            if behind < len(self.lines):
                return behind
        except WrongLine as error:
            return error.args[0]
        return None

    def entry(self, at, way):
        """Read the entry that begins at this line; the number of the line behind its branches is returned."""
        if at == len(self.lines):
            raise WrongLine(at)
        got = dict(way)
        give = re.fullmatch("give (0|[1-9][0-9]*)", self.lines[at])
        clash = re.fullmatch("clash (0|[1-9][0-9]*) (0|[1-9][0-9]*) (-|[a-f]+)", self.lines[at])
        if give and int(give[1]) < len(self.words) and int(give[1]) not in got:
            may = list(dict.fromkeys(mark for _, mark in way))
            if len(may) < self.count:
                may.append(f"new {len(may)}")
            behind = at + 1
            for mark in may:
                behind = self.entry(behind, way + [(int(give[1]), mark)])
            return behind
        if clash:
            i, j, text = int(clash[1]), int(clash[2]), clash[3].replace("-", "")
            if i < j and i in got and j in got and got[i] == got[j]:
                if text in self.texts[i] and text in self.texts[j]:
                    return at + 1
        raise WrongLine(at)


def any_paper(chance, pairs, many, count, way=()):
    """Some right paper, its words taken up in any sequence."""
    got = dict(way)
    clashes = [(i, j) for i, j in pairs if i in got and j in got and got[i] == got[j]]
    free = [word for word in range(many) if word not in got]
    if clashes and (not free or chance.random() < 0.9):
        i, j = chance.choice(clashes)
        return [f"clash {i} {j} {chance.choice(pairs[i, j]) or '-'}"]
    word = chance.choice(free)
    lines = [f"give {word}"]
    may = list(dict.fromkeys(mark for _, mark in way))
    for mark in may + [len(may)] if len(may) < count else may:
        lines += any_paper(chance, pairs, many, count, way + ((word, mark),))
    return lines


def bad_paper_at(table, words, most, count, text):
    """The line that BadPaper tells, None if the paper holds."""
    try:
        assert run(paper_holds, table, words, most, count, text) is True
    except BadPaper as error:
        assert type(error.at) is int
        return error.at
    return None


def spoilt_lines(line, many):
    """Lines that differ from this one in one place."""
    words = line.split(" ")
    for at, word in enumerate(words):
        for other in ("", "0", "1", str(many - 1), str(many), "7", "-", "a", "f", "give", "clash", word + "a", "-1", "00",
                      "0" + word, "+" + word, word + " ", " " + word, word.upper(), word[:-1], word[1:], word * 2, "g",
                      word + "-", "--", "a b", "10", "a" * 40):
            yield " ".join(words[:at] + [other] + words[at + 1:])
        yield " ".join(words[:at] + words[at + 1:])
        yield " ".join(words[:at] + [word] + words[at:])
    for other in (" " + line, line + " ", line.replace(" ", "  "), line.replace(" ", "\n"), line + "\n", "\n" + line, "",
                  " ", "give", "clash", "give 0 1", "clash 0", "clash 0 1", "clash 0 1 - -", "give -", "# " + line,
                  line.title(), line.replace(" ", "")):
        yield other
    if len(words) == 4:
        yield " ".join([words[0], words[2], words[1], words[3]])


def graph_words(chance):
    """A table, words and a price of which some pairs share a text and some do not."""
    while True:
        table = any_table(chance, "abc", 3)
        pool = words_up_to(2, "abc") if chance.random() < 0.7 else words_up_to(3, "abc")
        words = tuple(chance.sample(pool, chance.randint(1, 7)))
        most = chance.randint(0, 3)
        if chance.random() < 0.1 or pairs_of(table, words, most):
            return table, words, most


class Shared(unittest.TestCase):
    def check(self, table, one, other, most):
        """Check the answer against the others; it is returned."""
        found = run(shared, table, one, other, most)
        self.assertEqual(found, both_typed(table, one, other, most))
        turned = run(shared, table, other, one, most)
        self.assertEqual(turned, found and (found[0], found[2], found[1]))
        if found:
            text, first, second = found
            self.assertEqual((price(table, one, text), price(table, other, text)), (first, second))
            self.assertLessEqual(max(first, second), most)
        return found

    def test_the_table_of_the_overview(self):
        self.assertEqual(self.check(TABLE, "ab", "aba", 2), ("ab", 0, 2))
        self.assertIsNone(self.check(TABLE, "ab", "aba", 1))
        self.assertEqual(self.check(TABLE, "ab", "ba", 1), ("ba", 1, 0))
        self.assertEqual(self.check(TABLE, "ab", "ba", 2), ("b", 2, 2))
        self.assertIsNone(self.check(TABLE, "ab", "c", 3))

    def test_only_the_empty_text(self):
        self.assertEqual(self.check((("a", "", 1), ("b", "", 3)), "a", "b", 3), ("", 1, 3))
        self.assertIsNone(self.check((("a", "", 1), ("b", "", 3)), "a", "b", 2))
        self.assertEqual(self.check((("a", "", 1),), "a", "", 1), ("", 1, 0))
        self.assertEqual(self.check((("aa", "", 1), ("b", "", 1)), "aaaa", "bb", 2), ("", 2, 2))

    def test_no_text(self):
        for most in range(4):
            self.assertIsNone(self.check((), "a", "b", most))
            self.assertIsNone(self.check((), "", "a", most))
            self.assertIsNone(self.check((("a", "c", 1), ("b", "d", 1)), "a", "b", most))
            self.assertIsNone(self.check((("a", "b", 4),), "a", "b", most))

    def test_equal_words(self):
        for word in ("", "a", "abcdef", "ffffff"):
            for most in range(4):
                self.assertEqual(self.check((), word, word, most), (word, 0, 0))
        table = (("a", "", 2), ("b", "a", 1), ("bb", "", 3), ("bc", "d", 2))
        self.assertEqual(self.check(table, "ab", "ab", 1), ("aa", 1, 1))
        self.assertEqual(self.check(table, "ab", "ab", 2), ("b", 2, 2))
        self.assertEqual(self.check(table, "ab", "ab", 3), ("a", 3, 3))
        self.assertEqual(self.check(table, "abb", "abb", 3), ("a", 3, 3))
        self.assertEqual(self.check(table, "bbc", "bbc", 3), ("c", 3, 3))
        self.assertEqual(self.check(table, "bc", "bc", 2), ("d", 2, 2))

    def test_the_least_by_length_then_by_letters_whatever_the_prices(self):
        table = (("a", "bb", 1), ("a", "c", 3), ("a", "d", 1), ("b", "bb", 1), ("b", "c", 3), ("b", "d", 2))
        self.assertEqual(self.check(table, "a", "b", 3), ("c", 3, 3))
        self.assertEqual(self.check(table, "a", "b", 2), ("d", 1, 2))
        self.assertEqual(self.check(table, "a", "b", 1), ("bb", 1, 1))
        self.assertIsNone(self.check(table, "a", "b", 0))

    def test_the_least_price_of_all_cuts_is_told(self):
        table = (("a", "", 1), ("a", "b", 3), ("ab", "b", 2), ("c", "b", 2))
        self.assertEqual(self.check(table, "ab", "c", 3), ("b", 1, 2))

    def test_words_of_six_letters_and_of_seven(self):
        self.assertEqual(self.check(STAR, "abcdef", "abcdee", 1), ("abcde", 1, 1))
        self.assertEqual(self.check(STAR, "abcdef", "fedcba", 3), None)
        self.assertEqual(refused_at(shared, STAR, "abcdefa", "a", 1), 1)
        self.assertEqual(refused_at(shared, STAR, "a", "abcdefa", 1), 2)
        self.assertEqual(refused_at(shared, STAR, "abcdefa", "abcdefa", 4), 1)

    def test_prices_zero_three_and_four(self):
        self.assertIsNone(self.check((("a", "b", 1),), "a", "b", 0))
        self.assertEqual(self.check((("a", "b", 3),), "a", "b", 3), ("b", 3, 0))
        for most, at in ((-1, 3), (0, None), (3, None), (4, 3), (True, 3), (False, 3)):
            self.assertEqual(refused_at(shared, TABLE, "a", "b", most), at)

    def test_all_texts_of_some_tables(self):
        texts = words_up_to(5, "ab")
        for table in (TABLE, (("", "b", 1), ("a", "bb", 1), ("ba", "", 2)), (("a", "", 1), ("b", "", 2))):
            for one, other in itertools.product(words_up_to(2, "ab"), repeat=2):
                for most in range(4):
                    found = run(shared, table, one, other, most)
                    for text in texts:
                        prices = least_price(table, one, text), least_price(table, other, text)
                        if None not in prices and max(prices) <= most:
                            self.assertEqual(found, (text,) + prices)
                            break
                    else:
                        self.assertTrue(found is None or len(found[0]) > 5)

    def test_many_tables(self):
        chance = random.Random(33)
        met = 0
        for _ in range(800):
            letters = chance.choice(("ab", "abc"))
            table = any_table(chance, letters, 2)
            one, other = any_word(chance, letters, 4), any_word(chance, letters, 4)
            met += self.check(table, one, other, chance.randint(0, 3)) is not None
        self.assertTrue(100 < met < 700, met)

    def test_very_many_texts(self):
        for one, other in itertools.combinations(SEVEN, 2):
            self.check(EIGHT, one, other, 3)
        self.assertIsNone(self.check(PUT_IN, "ababab", "bababa", 3))
        self.assertEqual(self.check(PUT_IN, "acabbb", "abbbbd", 3), ("acabbbbd", 1, 1))
        self.assertEqual(self.check(PUT_IN, "acadae", "bcbdbe", 3), ("acadaebcbdbe", 3, 3))


class Sharing(unittest.TestCase):
    def test_the_table_of_the_overview(self):
        self.assertEqual(run(sharing, TABLE, WORDS, 2), ((0, 1), (0, 2), (1, 2)))
        self.assertEqual(run(sharing, TABLE, WORDS, 1), ((0, 2),))
        self.assertEqual(run(sharing, TABLE, WORDS, 0), ())

    def test_pairs_are_numbers_in_the_sequence_of_the_words(self):
        for mixed in itertools.permutations(WORDS):
            expected = tuple(
                (i, j) for i, j in itertools.combinations(range(4), 2) if both_typed(TABLE, mixed[i], mixed[j], 2))
            self.assertEqual(run(sharing, TABLE, mixed, 2), expected)

    def test_one_word_seven_and_eight(self):
        self.assertEqual(run(sharing, TABLE, ("",), 3), ())
        self.assertEqual(run(sharing, TABLE, ["abcdef"], 3), ())
        letters = ("a", "b", "c", "d", "e", "f", "")
        self.assertEqual(run(sharing, STAR, letters, 1), tuple(itertools.combinations(range(7), 2)))
        self.assertEqual(run(sharing, (), letters, 3), ())
        for function in (sharing, marks, paper):
            for words, at in (((), 1), (letters, None), (letters + ("aa",), 1), (letters[:-1] + ("a",), 1)):
                self.assertEqual(refused_at(function, STAR, words, 1), at)

    def test_words_of_six_letters_and_of_seven(self):
        for function in (sharing, marks, paper):
            self.assertIsNone(refused_at(function, TABLE, ("abcdef", "a"), 1))
            self.assertEqual(refused_at(function, TABLE, ("abcdefa", "a"), 1), 1)
            self.assertEqual(refused_at(function, TABLE, ("a", "abcdefa"), 4), 1)

    def test_the_same_word_twice(self):
        for function in (sharing, marks, paper):
            for words in (("a", "a"), ["", ""], ("ab", "a", "b", "ab"), ["a"] * 7):
                self.assertEqual(refused_at(function, TABLE, words, 1), 1)

    def test_prices_zero_three_and_four(self):
        self.assertEqual(run(sharing, (("a", "b", 3),), ("a", "b"), 3), ((0, 1),))
        self.assertEqual(run(sharing, (("a", "b", 3),), ("a", "b"), 2), ())
        for function in (sharing, marks, paper):
            for most, at in ((-1, 2), (0, None), (3, None), (4, 2), (True, 2), (False, 2)):
                self.assertEqual(refused_at(function, TABLE, ("a", "b"), most), at)

    def test_it_tells_for_which_words_shared_tells_a_text(self):
        chance = random.Random(35)
        for _ in range(300):
            table, words, most = graph_words(chance)
            expected = tuple(
                (i, j) for i, j in itertools.combinations(range(len(words)), 2)
                if run(shared, table, words[i], words[j], most))
            self.assertEqual(run(sharing, table, words, most), expected)
            self.assertEqual(expected, tuple(pairs_of(table, words, most)))


class Marks(unittest.TestCase):
    def check(self, table, words, most):
        """Check the marks by the words of [34] and [8]; they are returned."""
        found = run(marks, table, words, most)
        pairs = run(sharing, table, words, most)
        if len(words) < 6:
            self.assertEqual(found, least_marks(pairs, len(words)))
        self.assertEqual(len(found), len(words))
        self.assertEqual(sorted(set(found)), list(range(len(set(found)))))
        for i, j in pairs:
            self.assertNotEqual(found[i], found[j])
        self.assertEqual(len(set(found)) == 1, pairs == ())
        return found

    def test_the_table_of_the_overview(self):
        self.assertEqual(self.check(TABLE, WORDS, 2), (0, 1, 2, 0))
        self.assertEqual(self.check(TABLE, WORDS, 1), (0, 0, 1, 0))
        self.assertEqual(self.check(TABLE, WORDS, 0), (0, 0, 0, 0))

    def test_words_all_of_which_share_and_none_of_which_share(self):
        letters = ("f", "", "a", "b", "e", "d", "c")
        for many in range(1, 8):
            self.assertEqual(self.check(STAR, letters[:many], 1), tuple(range(many)))
            self.assertEqual(self.check((), letters[:many], 3), (0,) * many)
            self.assertEqual(self.check(STAR, letters[:many], 0), (0,) * many)

    def test_the_first_free_mark_in_turn_would_not_do(self):
        words = ("a", "b", "d", "e")
        pairs = run(sharing, PATH, words, 1)
        self.assertEqual(pairs, ((0, 2), (1, 3), (2, 3)))
        self.assertEqual(free_marks(pairs, 4), (0, 0, 1, 2))
        self.assertEqual(self.check(PATH, words, 1), (0, 1, 1, 0))
        self.assertEqual(self.check(PATH, words + ("aaa", "ccc"), 1), (0, 1, 1, 0, 0, 0))
        self.assertEqual(self.check(PATH, ("ccc",) + words, 1), (0, 0, 1, 1, 0))

    def test_rings(self):
        five = (("a", "b", 1), ("b", "c", 1), ("c", "d", 1), ("d", "e", 1), ("e", "a", 1))
        letters = ("a", "b", "c", "d", "e")
        self.assertEqual(run(sharing, five, letters, 1), ((0, 1), (0, 4), (1, 2), (2, 3), (3, 4)))
        self.assertEqual(self.check(five, letters, 1), (0, 1, 0, 1, 2))
        self.assertEqual(self.check(five, ("a", "c", "b", "d", "e"), 1), (0, 0, 1, 1, 2))
        six = five[:4] + (("e", "f", 1), ("f", "a", 1))
        self.assertEqual(self.check(six, letters + ("f",), 1), (0, 1, 0, 1, 0, 1))
        # The first free mark in turn would be (0, 0, 1, 1, 2, 2).
        self.assertEqual(self.check(six, ("a", "d", "b", "e", "c", "f"), 1), (0, 1, 1, 0, 0, 1))

    def test_words_and_tables_in_any_sequence(self):
        chance = random.Random(36)
        odd = 0
        for _ in range(600):
            table, words, most = graph_words(chance)
            found = self.check(table, words, most)
            pairs = run(sharing, table, words, most)
            odd += found != free_marks(pairs, len(words))
        for words in itertools.permutations(("a", "b", "d", "e", "c"), 5):
            found = self.check(PATH, words, 1)
            odd += found != free_marks(run(sharing, PATH, words, 1), 5)
        self.assertGreater(odd, 10)

    def test_seven_words_against_all_tuples(self):
        chance = random.Random(37)
        for words, most in ((SEVEN, 3), (("a", "e", "b", "d", "c", "", "aa"), 1)):
            table = EIGHT if words == SEVEN else PATH
            self.assertEqual(run(marks, table, words, most), least_marks(run(sharing, table, words, most), 7))
        table = any_table(chance, "ab", 2)
        words = tuple(chance.sample(words_up_to(2, "ab"), 7))
        self.assertEqual(run(marks, table, words, 1), least_marks(run(sharing, table, words, 1), 7))

    def test_for_each_text_and_mark_there_is_at_most_one_word(self):
        chance = random.Random(38)
        for _ in range(100):
            table, words, most = graph_words(chance)
            given = run(marks, table, words, most)
            met = {}
            for word, mark in zip(words, given):
                for text, _ in run(typed, table, word, most):
                    self.assertEqual(met.setdefault((text, mark), word), word)

    def test_at_the_bounds(self):
        for table in (EIGHT, PUT_IN, STAR, tuple((letter, "", 1) for letter in "abcdef") + (("f", "a", 1), ("f", "b", 1))):
            self.check(table, SEVEN, 3)
            self.check(table, tuple("abcde" + letter for letter in "abcdef") + ("abcdea"[::-1],), 3)


class Papers(unittest.TestCase):
    """paper and paper_holds, against the reading of [35] entry by entry."""

    def check(self, table, words, most, count, text):
        """Check what is told of the text for this count; the wrong line is returned."""
        found = bad_paper_at(table, words, most, count, text)
        self.assertEqual(found, PaperReading(table, words, most, count, text).wrong_line(), text)
        if found is None:
            self.assertLess(count, len(set(marks(table, words, most))))
        return found

    def check_paper(self, table, words, most):
        """Check the paper for these words; it is returned."""
        text = run(paper, table, words, most)
        fewest = len(set(run(marks, table, words, most)))
        self.assertIsNone(self.check(table, words, most, fewest - 1, text))
        for count in range(8):
            self.check(table, words, most, count, text)
        self.assertIsNone(self.check(table, words, most, fewest - 1, text.rstrip("\n")))
        return text

    def cases(self):
        """Tables, words, prices and the greatest count that does not do."""
        yield TABLE, WORDS, 2, 2
        yield PATH, ("a", "b", "d", "e"), 1, 1
        yield STAR, ("a", "", "b"), 1, 2
        yield (), ("a", "b"), 3, 0
        yield (), ("",), 0, 0
        five = (("a", "b", 1), ("b", "c", 1), ("c", "d", 1), ("d", "e", 1), ("e", "a", 1))
        yield five, ("a", "b", "c", "d", "e"), 1, 2
        yield STAR, ("a", "b", "c", "d"), 1, 3
        yield EIGHT, ("aab", "ab", "b", "", "ef", "fe", "cc"), 2, None

    def given(self):
        for table, words, most, count in self.cases():
            fewest = len(set(marks(table, words, most)))
            self.assertIn(count, (None, fewest - 1))
            yield table, words, most, fewest - 1, run(paper, table, words, most)

    def test_the_table_of_the_overview(self):
        text = "give 0\ngive 1\nclash 0 1 ab\ngive 2\nclash 0 2 b\nclash 1 2 ba\n"
        self.assertIsNone(self.check(TABLE, WORDS, 2, 2, text))
        for forms_of in zip(forms(TABLE), forms(WORDS)):
            self.assertIs(run(paper_holds, *forms_of, 2, 2, text), True)
        self.assertIs(paper_holds(text=text, count=2, most=2, words=WORDS, table=TABLE), True)
        self.assertEqual(self.check(TABLE, WORDS, 2, 3, text), 6)
        self.assertEqual(self.check(TABLE, WORDS, 2, 1, text), 3)
        self.assertEqual(self.check(TABLE, WORDS, 2, 0, text), 1)
        self.assertEqual(self.check(TABLE, WORDS, 1, 2, text), 2)

    def test_papers_that_are_told(self):
        for table, words, most, _ in self.cases():
            self.check_paper(table, words, most)
        chance = random.Random(39)
        for _ in range(300):
            self.check_paper(*graph_words(chance))

    def test_papers_at_the_bounds(self):
        nine = ("a", "b", "c", "d", "e", "f", "")
        for table, words, most in (
                (STAR, nine, 1), (STAR, nine, 0), (STAR, nine, 3), (EIGHT, SEVEN, 3), (PUT_IN, SEVEN, 3),
                (STAR, tuple("abcde" + letter for letter in "abcdef") + ("fbcdef",), 3)):
            self.check_paper(table, words, most)

    def test_the_count_zero(self):
        for word in range(7):
            self.assertIsNone(self.check((), ("a", "b", "c", "d", "e", "f", ""), 0, 0, f"give {word}"))
        self.assertEqual(self.check((), ("a", "b"), 0, 0, "give 2"), 0)
        self.assertEqual(self.check((), ("a", "b"), 0, 0, "give 0\ngive 1"), 1)
        self.assertEqual(self.check(STAR, ("a", "b"), 1, 0, "clash 0 1 -"), 0)

    def test_counts_from_zero_to_seven_and_eight(self):
        letters = ("a", "b", "c", "d", "e", "f", "")
        whole = run(paper, STAR, letters, 1)
        for count in range(8):
            pairs = pairs_of(STAR, letters, 1)
            if count < 7:
                for seed in range(3):
                    text = "\n".join(any_paper(random.Random(seed), pairs, 7, count))
                    self.assertIsNone(self.check(STAR, letters, 1, count, text))
                    self.assertIsNotNone(self.check(STAR, letters, 1, count + 1, text))
            self.assertEqual(self.check(STAR, letters, 1, count, whole) is None, count == 6)
        for wrong in (-1, 8, True, False, None, "6", (6,), 10 ** 30):
            self.assertEqual(refused_at(paper_holds, STAR, letters, 1, wrong, whole), 3)
            self.assertEqual(refused_at(paper_holds, STAR, letters, 1, wrong, None), 3)

    def test_other_right_papers(self):
        chance = random.Random(40)
        for table, words, most, count, _ in self.given():
            pairs = pairs_of(table, words, most)
            for _ in range(30):
                lines = any_paper(chance, pairs, len(words), count)
                text = "\n".join(lines) + chance.choice(("", "\n"))
                self.assertIsNone(self.check(table, words, most, count, text))
        for _ in range(200):
            table, words, most = graph_words(chance)
            pairs = pairs_of(table, words, most)
            for count in range(len(set(marks(table, words, most)))):
                text = "\n".join(any_paper(chance, pairs, len(words), count))
                self.assertIsNone(self.check(table, words, most, count, text))
                for other in range(8):
                    self.check(table, words, most, other, text)

    def test_each_shared_text_will_do_not_only_the_least(self):
        for text in ("ab", "aba", "aab", "abaa", "b", "a", "aba a", "bab", "", "-"):
            whole = f"give 0\ngive 1\nclash 0 1 {text}\n"
            expected = None if text in dict(typed(TABLE, "aba", 2)) and text in dict(typed(TABLE, "ab", 2)) else 2
            self.assertEqual(self.check(TABLE, ("ab", "aba"), 2, 1, whole), expected)
        self.assertIsNone(self.check(STAR, ("ab", "ba"), 2, 1, "give 1\ngive 0\nclash 0 1 -"))

    def test_lines_left_out_twice_and_exchanged(self):
        for table, words, most, count, text in self.given():
            lines = text.splitlines()
            for at in range(len(lines)):
                self.check(table, words, most, count, "\n".join(lines[:at] + lines[at + 1:]))
                self.check(table, words, most, count, "\n".join(lines[:at]))
                self.assertEqual(self.check(table, words, most, count, "\n".join(lines[:at]) + "\n" * (at > 0)), at)
                self.assertIsNotNone(self.check(table, words, most, count, "\n".join(lines[:at + 1] + lines[at:])))
                for other in range(at):
                    mixed = list(lines)
                    mixed[at], mixed[other] = mixed[other], mixed[at]
                    self.check(table, words, most, count, "\n".join(mixed))

    def test_lines_put_in(self):
        for table, words, most, count, text in self.given():
            lines = text.splitlines()
            more = ["give 0", f"give {len(words) - 1}", "clash 0 1 -", "", " ", "give", "-", "x"] + lines[:3] + lines[-1:]
            for at in range(len(lines) + 1):
                for extra in more:
                    for behind in ("", "\n"):
                        value = "\n".join(lines[:at] + [extra] + lines[at:]) + behind
                        self.check(table, words, most, count, value)
            self.assertEqual(self.check(table, words, most, count, text + "\n"), len(lines))
            self.assertEqual(self.check(table, words, most, count, text + text), len(lines))
            self.assertEqual(self.check(table, words, most, count, text + " "), len(lines))

    def test_each_part_of_each_line_spoilt(self):
        for table, words, most, count, text in self.given():
            lines = text.splitlines()
            for at, line in enumerate(lines):
                for spoilt in spoilt_lines(line, len(words)):
                    value = "\n".join(lines[:at] + [spoilt] + lines[at + 1:])
                    self.check(table, words, most, count, value)
                    self.check(table, words, most, count, value + "\n")

    def test_forms_that_are_not_of_the_form(self):
        words = ("a", "b")
        right = ["give 0", "give 1", "clash 0 1 -"]
        for at, others in enumerate((
                ("give 00", "give 01", "give  0", " give 0", "give 0 ", "give +0", "give -0", "Give 0", "give", "give 2",
                 "give 0 0", "give a", "give -", "0", "0 give", "give0", "", " ", "give 0.", "clash 0 1 -", "give 0_0"),
                ("give 0", "give 01", "give  1", "give 1 ", " give 1", "give 2", "clash 0 1 -", "clash 0 0 a", ""),
                ("clash 1 0 -", "clash 0 0 -", "clash 1 1 b", "clash 00 1 -", "clash 0 01 -", "clash 0 1", "clash 0 1  -",
                 "clash  0 1 -", "clash 0 1 - ", " clash 0 1 -", "clash 0 1 ", "clash 0 1 --", "clash 0 1 a",
                 "clash 0 1 b", "clash 0 1 c", "clash 0 1 g", "clash 0 1 A", "clash 0 2 -", "clash -1 1 -", "clash 0 1 - -",
                 "clash 0 - 1", "Clash 0 1 -", "clash", "give 0", "give 1", "", "clash 0 1 " + "a" * 4000))):
            for other in others:
                with self.subTest(at=at, line=other[:40]):
                    value = "\n".join(right[:at] + [other] + right[at + 1:])
                    self.assertEqual(self.check(STAR, words, 1, 1, value + "\n"), at)
        self.assertIsNone(self.check(STAR, words, 1, 1, "\n".join(right)))

    def test_of_several_wrong_lines_the_first_is_told(self):
        text = run(paper, TABLE, WORDS, 2).splitlines()
        for one, other in itertools.combinations(range(len(text)), 2):
            value = [line + " " * (at in (one, other)) for at, line in enumerate(text)]
            self.assertEqual(self.check(TABLE, WORDS, 2, 2, "\n".join(value)), one)
            self.assertEqual(self.check(TABLE, WORDS, 2, 2, "\n".join(value + ["x"])), one)

    def test_no_line_at_all_and_empty_lines(self):
        for count in range(8):
            self.assertEqual(self.check(TABLE, WORDS, 2, count, ""), 0)
            self.assertEqual(self.check(TABLE, WORDS, 2, count, "\n"), 0)
            self.assertEqual(self.check(TABLE, WORDS, 2, count, "\n\n"), 0)
            self.assertEqual(self.check(TABLE, WORDS, 2, count, " "), 0)

    def test_what_is_no_string(self):
        for wrong in NOTHINGS + (0, 1, (), [], ["give 0"], ("give 0",), nested(20, "give 0"), [0] * 5000):
            for value in forms(wrong) + (wrong,):
                self.assertEqual(bad_paper_at((), ("a",), 0, 0, value), 0)

    def test_bad_values_come_before_bad_papers(self):
        for text in ("give 0", "", None, "x"):
            self.assertEqual(refused_at(paper_holds, TABLE[::-1], (), 4, 8, text), 0)
            self.assertEqual(refused_at(paper_holds, TABLE, (), 4, 8, text), 1)
            self.assertEqual(refused_at(paper_holds, TABLE, WORDS, 4, 8, text), 2)
            self.assertEqual(refused_at(paper_holds, TABLE, WORDS, 3, 8, text), 3)

    def test_a_paper_that_goes_on_though_words_clash(self):
        # Both have the same mark after two lines, but no line must tell so.
        words = ("a", "b", "c")
        text = "give 0\ngive 1\ngive 2\nclash 0 1 -\n"
        self.assertIsNone(self.check(STAR, words, 1, 1, text))
        self.assertEqual(self.check(STAR, words, 1, 1, text.replace("clash 0 1", "clash 0 3")), 3)
        self.assertEqual(self.check(STAR, words, 1, 1, "give 0\ngive 1\ngive 2\ngive 0"), 3)

    def test_very_long_papers(self):
        letters = ("a", "b", "c", "d", "e", "f", "")
        pairs = pairs_of(STAR, letters, 1)

        def whole(way):
            """The paper that goes on until each word has a mark."""
            if len(way) == 7:
                i, j = next(pair for pair in pairs if way[pair[0]] == way[pair[1]])
                return [f"clash {i} {j} -"]
            may = range(min(len(set(way)) + 1, 6))
            return [f"give {len(way)}"] + [line for mark in may for line in whole(way + (mark,))]

        lines = whole(())
        self.assertGreater(len(lines), 1000)
        text = "\n".join(lines)
        self.assertIsNone(self.check(STAR, letters, 1, 6, text))
        self.assertEqual(self.check(STAR, letters, 1, 6, "\n".join(lines[:-1])), len(lines) - 1)
        self.assertEqual(self.check(STAR, letters, 1, 6, text + "\n" + text * 200), len(lines))
        self.assertEqual(self.check(STAR, letters, 1, 6, "give 0\n" * 100000), 1)
        self.assertEqual(self.check(STAR, letters, 1, 6, "\n" * 100000), 0)
        self.assertEqual(self.check(STAR, letters, 1, 6, "give 0\ngive 1\nclash 0 1 " + "a" * 1000000), 2)
        self.assertEqual(self.check(PUT_IN, ("ab", "ba"), 3, 1, "give 0\ngive 1\nclash 0 1 " + "ac" * 200000), 2)

    def test_texts_of_twelve_letters_and_of_more(self):
        table, words = (("", "ab", 1), ("", "ba", 1)), ("ababab", "bababa")
        begin = "give 0\ngive 1\nclash 0 1 "
        for text, expected in (
                ("abbaabbaabba", None), ("abbaabbaabb", 2), ("abbaabbaabbab", 2), ("abbaabbaabbaab", 2),
                ("abababababab", 2), ("ab" * 7, 2), ("ba" * 3, 2), ("abababbababa", None), ("ab" * 5000, 2)):
            self.assertEqual(self.check(table, words, 3, 1, begin + text), expected)
        self.assertEqual(self.check(table, words, 2, 1, begin + "abbaabbaabba"), 2)


if __name__ == "__main__":
    unittest.main()
