"""[13]: values and arguments, for every function that has landed."""

import itertools
import unittest

from slipworth.errors import BadPaper, BadText, NotMeant, NoWord, TooMany
from slipworth.machines import first_words, is_machine, least_machine, machine_of, tells
from slipworth.marking import marks, paper, paper_holds, shared, sharing
from slipworth.meanings import meant, within
from slipworth.mixups import is_told, mixup, stands, stands_hold, strength
from slipworth.prices import cut, is_table, price, typed
from slipworth.spellers import Speller
from slipworth.tables import is_alike, least_table, unlike
from slipworth.texts import parse, printed
from tests.helper import NO_WORDS, NOTHINGS, as_lists, forms, is_plain, nested, no_integers, refused_at, run

MACHINE = (3, (2,), ((0, "a", 1), (1, "b", 2), (2, "a", 2)))
TABLE = (("", "a", 2), ("a", "", 2), ("a", "b", 4), ("ab", "ba", 1))

NO_MACHINES = NOTHINGS + (
    0, 3, "", "abc", (), [], (1, ()), (1, (), (), ()), [MACHINE], TABLE,
    # the number of the states
    (0, (), ()), (9, (), ()), (-1, (), ()), (True, (), ()), (False, (), ()), (None, (), ()), ("1", (), ()),
    ((1,), (), ()), (10 ** 30, (), ()),
    # the ends
    (1, 0, ()), (1, None, ()), (1, "", ()), (1, "0", ()), (2, (True,), ()), (2, (False,), ()), (2, (0, True), ()),
    (1, (1,), ()), (1, (-1,), ()), (8, (8,), ()), (2, (1, 0), ()), (2, (0, 0), ()), (2, ((0,),), ()),
    (2, ("0",), ()), (2, (None,), ()), (2, nested(18), ()),
    # the moves
    (1, (), 0), (1, (), None), (1, (), ""), (1, (), "0a0"), (1, (), (0, "a", 0)), (1, (), ((0, "a"),)),
    (1, (), ((0, "a", 0, 0),)), (1, (), ("0a0",)), (1, (), (None,)), (1, (), ((1, "a", 0),)), (1, (), ((0, "a", 1),)),
    (1, (), ((-1, "a", 0),)), (1, (), ((0, "a", -1),)), (2, (), ((True, "a", 0),)), (2, (), ((0, "a", True),)),
    (2, (), ((False, "a", 0),)), (1, (), ((0, "", 0),)), (1, (), ((0, "ab", 0),)), (1, (), ((0, "g", 0),)),
    (1, (), ((0, "A", 0),)), (1, (), ((0, 0, 0),)), (1, (), ((0, None, 0),)), (1, (), ((0, ("a",), 0),)),
    (1, (), (("0", "a", 0),)), (1, (), ((0, "a", "0"),)), (1, (), nested(18)),
    (1, (), ((0, "b", 0), (0, "a", 0))), (1, (), ((0, "a", 0), (0, "a", 0))), (2, (), ((0, "a", 0), (0, "a", 1))),
    (2, (), ((1, "a", 0), (0, "b", 0))), (2, (), ((0, "a", 1), (0, "a", 0))),
)

EIGHT = tuple(("", letter, 1) for letter in "abcdef") + (("a", "", 1), ("a", "b", 1))
NO_TABLES = NOTHINGS + (
    0, 3, "", "abc", ("a", "b", 1), [TABLE], MACHINE, EIGHT + (("b", "a", 1),), EIGHT * 600,
    # the faults
    (None,), (3,), ("ab1",), ((),), (("a", "b"),), (("a", "b", 1, 1),), (nested(18),), ((("a", "b", 1),),),
    # the pieces
    (("a", "a", 1),), (("", "", 1),), (("ab", "ab", 1),), (("abc", "a", 1),), (("a", "abc", 1),), (("a", "g", 1),),
    (("A", "a", 1),), (("a", "-", 1),), ((None, "a", 1),), (("a", None, 1),), ((0, "a", 1),), (("a", ("b",), 1),),
    ((["a"], "b", 1),), (("a", "b\n", 1),),
    # the prices
    (("a", "b", 0),), (("a", "b", 10),), (("a", "b", -1),), (("a", "b", True),), (("a", "b", False),),
    (("a", "b", None),), (("a", "b", "1"),), (("a", "b", (1,)),), (("a", "b", 10 ** 30),),
    # the order
    (("b", "a", 1), ("a", "b", 1)), (("a", "b", 1), ("a", "b", 1)), (("a", "b", 1), ("a", "b", 2)),
    (("a", "c", 1), ("a", "b", 2)), (("b", "a", 1), ("ab", "a", 1)), (("a", "b", 1), ("", "b", 1)),
    (("a", "b", 2), ("a", "b", 1)),
)

NO_WORD_LISTS = NOTHINGS + (
    0, 1, "", "a", "abc", ("a", "a"), ["", ""], ("ab", "a", "ab"), (1,), (None,), (True,), (("a",),), (["a"],), ("g",),
    ("a", "B"), ("a", "b\n"), ("a", nested(18)), ("", "a", "b", "c", "d", "e", "f", "aa", "ab", "ac", "ad", "ae", "af"),
    ("a",) * 12, ("a",) * 5000, ("abcdefabcdef", "x"),
)

NO_MARKED = NOTHINGS + (
    0, 1, "", "a", "abc", (), [], ("a", "a"), ["", ""], ("ab", "a", "ab"), (1,), (None,), (True,), (("a",),), (["a"],),
    ("g",), ("a", "B"), ("a", "b\n"), ("a", nested(18)), ("", "a", "b", "c", "d", "e", "f", "aa"), ("abcdefa",),
    ("a", "aaaaaaa"), ("a" * 12, "b"), ("a",) * 7, ("a",) * 5000, TABLE, MACHINE)
NO_SHORT = NO_WORDS + ("abcabca", "a" * 12)

PROOF = stands(TABLE, MACHINE, 1)
WORDS = ("ab", "aba", "ba", "c")
PAPER = paper(TABLE, WORDS, 2)
SPELLER = Speller(TABLE, 2)
SPELLER.put("ab")


def made(*given, **named):
    """The words of a new speller, as a speller itself is no plain value."""
    return Speller(*given, **named).words()


# Each function with a good value and wrong values for each of its arguments, none where any value may be passed.
CALLS = (
    (tells, (("machine", MACHINE, NO_MACHINES), ("word", "ab", NO_WORDS))),
    (first_words, (("machine", MACHINE, NO_MACHINES), ("limit", 5, no_integers(0, 50)))),
    (least_machine, (("machine", MACHINE, NO_MACHINES),)),
    (machine_of, (("words", ("ab", "a", ""), NO_WORD_LISTS),)),
    (price, (("table", TABLE, NO_TABLES), ("word", "abc", NO_WORDS), ("text", "bac", NO_WORDS))),
    (cut, (("table", TABLE, NO_TABLES), ("word", "abc", NO_WORDS), ("text", "bac", NO_WORDS))),
    (typed, (("table", TABLE, NO_TABLES), ("word", "abc", NO_WORDS + ("abcabca", "a" * 12)),
             ("most", 3, no_integers(0, 3)))),
    (within, (("table", TABLE, NO_TABLES), ("machine", MACHINE, NO_MACHINES),
              ("text", "ba", NO_WORDS + ("abcabca", "a" * 16)), ("most", 3, no_integers(0, 3)))),
    (meant, (("table", TABLE, NO_TABLES), ("machine", MACHINE, NO_MACHINES),
             ("text", "ba", NO_WORDS + ("abcabca", "a" * 16)), ("most", 3, no_integers(0, 3)))),
    (is_told, (("table", TABLE, NO_TABLES), ("machine", MACHINE, NO_MACHINES), ("most", 1, no_integers(0, 2)))),
    (stands, (("table", TABLE, NO_TABLES), ("machine", MACHINE, NO_MACHINES), ("most", 1, no_integers(0, 2)))),
    (stands_hold, (("table", TABLE, NO_TABLES), ("machine", MACHINE, NO_MACHINES), ("most", 1, no_integers(0, 2)),
                   ("value", PROOF, ()))),
    (mixup, (("table", TABLE, NO_TABLES), ("machine", MACHINE, NO_MACHINES), ("most", 2, no_integers(0, 2)))),
    (strength, (("table", TABLE, NO_TABLES), ("machine", MACHINE, NO_MACHINES), ("limit", 2, no_integers(0, 2)))),
    (is_alike, (("one", TABLE, NO_TABLES), ("other", EIGHT, NO_TABLES))),
    (unlike, (("one", TABLE, NO_TABLES), ("other", EIGHT, NO_TABLES))),
    (least_table, (("table", TABLE, NO_TABLES),)),
    (shared, (("table", TABLE, NO_TABLES), ("one", "ab", NO_SHORT), ("other", "aba", NO_SHORT),
              ("most", 2, no_integers(0, 3)))),
    (sharing, (("table", TABLE, NO_TABLES), ("words", WORDS, NO_MARKED), ("most", 2, no_integers(0, 3)))),
    (marks, (("table", TABLE, NO_TABLES), ("words", WORDS, NO_MARKED), ("most", 2, no_integers(0, 3)))),
    (paper, (("table", TABLE, NO_TABLES), ("words", WORDS, NO_MARKED), ("most", 2, no_integers(0, 3)))),
    (paper_holds, (("table", TABLE, NO_TABLES), ("words", WORDS, NO_MARKED), ("most", 2, no_integers(0, 3)),
                   ("count", 2, no_integers(0, 7)), ("text", PAPER, ()))),
    (made, (("table", TABLE, NO_TABLES), ("most", 2, no_integers(0, 3)))),
    (SPELLER.put, (("word", "c", NO_SHORT),)),
    (SPELLER.read, (("text", "ba", NO_WORDS),)),
    (SPELLER.retable, (("table", TABLE, NO_TABLES),)),
    (printed, (("table", TABLE, NO_TABLES),)),
)


class WrongArguments(unittest.TestCase):
    def test_each_argument_wrong_in_turn(self):
        for function, arguments in CALLS:
            for at, (name, _, wrongs) in enumerate(arguments):
                for wrong in wrongs:
                    for value in forms(wrong) + (wrong,):
                        given = [good for _, good, _ in arguments]
                        given[at] = value
                        with self.subTest(function=function.__name__, argument=name, value=repr(value)[:80]):
                            self.assertEqual(refused_at(function, *given), at)

    def test_two_or_more_wrong_at_once(self):
        for function, arguments in CALLS:
            for bad in itertools.product(*[(False, True) if wrongs else (False,) for _, _, wrongs in arguments]):
                for turn in range(7) if any(bad) else ():
                    given = [
                        wrongs[turn * 5 % len(wrongs)] if is_bad else good
                        for is_bad, (_, good, wrongs) in zip(bad, arguments)]
                    with self.subTest(function=function.__name__, bad=bad):
                        self.assertEqual(refused_at(function, *given), bad.index(True))

    def test_wrong_arguments_by_name(self):
        for function, arguments in CALLS:
            for at, (name, _, wrongs) in enumerate(arguments):
                for wrong in wrongs[:1]:
                    named = {other: good for other, good, _ in reversed(arguments)}
                    named[name] = wrong
                    self.assertEqual(refused_at(function, **named), at)

    def test_bad_value_comes_before_too_many(self):
        eight = "abcdefab"
        self.assertEqual(refused_at(machine_of, (eight, "x")), 0)
        self.assertEqual(refused_at(machine_of, (eight, eight)), 0)
        with self.assertRaises(TooMany):
            run(machine_of, (eight,))

    def test_is_machine_and_is_table_take_any_value(self):
        for wrong in NO_MACHINES:
            for value in forms(wrong) + (wrong,):
                with self.subTest(value=repr(value)[:80]):
                    self.assertIs(run(is_machine, value), False)
                    self.assertIs(run(is_machine, value=value), False)
        for wrong in NO_TABLES:
            for value in forms(wrong) + (wrong,):
                with self.subTest(value=repr(value)[:80]):
                    self.assertIs(run(is_table, value), False)
                    self.assertIs(run(is_table, value=value), False)

    def test_large_values(self):
        many = list(range(4990))
        for value in ([1, many, []], [1, [], many], [8, [], [[0, "a", 0]] * 1600], many):
            self.assertIs(run(is_machine, value), False)
            self.assertEqual(refused_at(tells, value, "a"), 0)
            self.assertIs(run(is_table, value), False)
            self.assertEqual(refused_at(price, value, "a", "a"), 0)
            self.assertEqual(refused_at(machine_of, value), 0)


    def test_values_for_which_no_bad_value_is_told(self):
        for wrong in NOTHINGS + (0, (), [], ["a"], ("give 0",), ["- > a 1"]):
            for value in forms(wrong) + (wrong,):
                with self.subTest(value=repr(value)[:80]):
                    for count in (0, 2, 7):
                        with self.assertRaises(BadPaper) as caught:
                            run(paper_holds, TABLE, WORDS, 2, count, value)
                        self.assertEqual(caught.exception.at, 0)
                    with self.assertRaises(BadText) as caught:
                        run(parse, value)
                    self.assertEqual(caught.exception.at, 0)
                    with self.assertRaises(NoWord) as caught:
                        run(SPELLER.take, value)
                    self.assertIs(caught.exception.word, value)
                    self.assertIs(value in SPELLER, False)

    def test_the_errors_of_a_speller_come_behind_bad_values(self):
        speller = Speller(TABLE, 2)
        speller.put("ab")
        self.assertEqual(refused_at(speller.put, "abababa"), 0)
        self.assertEqual(refused_at(speller.read, "g"), 0)
        self.assertEqual(refused_at(speller.retable, TABLE[::-1]), 0)
        with self.assertRaises(NotMeant):
            run(speller.read, "ccccccccccccccccccccccc")


class GoodArguments(unittest.TestCase):
    def test_lists_for_tuples_at_every_level(self):
        for function, arguments in CALLS:
            expected = run(function, *[good for _, good, _ in arguments])
            for row in itertools.product(*[forms(good) for _, good, _ in arguments]):
                self.assertEqual(run(function, *row), expected)
        for value in forms(MACHINE):
            self.assertIs(run(is_machine, value), True)
        for value in forms(TABLE):
            self.assertIs(run(is_table, value), True)

    def test_by_name(self):
        for function, arguments in CALLS:
            expected = run(function, *[good for _, good, _ in arguments])
            named = {name: good for name, good, _ in reversed(arguments)}
            self.assertEqual(run(function, **named), expected)
            first = arguments[0][1]
            rest = {name: good for name, good, _ in arguments[1:]}
            self.assertEqual(run(function, first, **rest), expected)

    def test_later_changes_have_no_effect(self):
        table, machine = as_lists(TABLE), as_lists(MACHINE)
        words = ["ab", "a"]
        found = (
            cut(table, "abc", "bac"), least_machine(machine), machine_of(words), within(table, machine, "ba", 3),
            meant(table, machine, "ba", 3), stands(table, machine, 1), mixup(table, machine, 2), unlike(table, []),
            least_table(table), shared(table, "ab", "a", 3), sharing(table, words, 3), marks(table, words, 3),
            paper(table, words, 3), printed(table), parse(printed(table)))
        before = repr(found)
        table[3][2] = 9
        table.clear()
        machine[2][0][1] = "f"
        machine[1].append(7)
        words.append("f")
        self.assertEqual(repr(found), before)
        self.assertTrue(is_plain(found))

    def test_the_same_call_again(self):
        for function, arguments in CALLS:
            given = [as_lists(good) for _, good, _ in arguments]
            first = run(function, *given)
            for at, (_, _, wrongs) in enumerate(arguments):
                for wrong in wrongs[:1]:
                    self.assertEqual(refused_at(function, *given[:at], wrong, *given[at + 1:]), at)
            self.assertEqual(run(function, *given), first)

    def test_true_is_not_one(self):
        self.assertEqual(run(first_words, MACHINE, 1), ("ab",))
        self.assertEqual(refused_at(first_words, MACHINE, True), 1)
        self.assertEqual(run(first_words, MACHINE, 0), ())
        self.assertEqual(refused_at(first_words, MACHINE, False), 1)
        self.assertEqual(run(typed, (), "a", 1), (("a", 0),))
        self.assertEqual(refused_at(typed, (), "a", True), 2)
        for function in (sharing, marks, paper):
            for number in (0, 1):
                self.assertIsNone(refused_at(function, TABLE, WORDS, number))
                self.assertEqual(refused_at(function, TABLE, WORDS, bool(number)), 2)
        self.assertEqual(refused_at(shared, TABLE, "a", "b", True), 3)
        self.assertIs(run(paper_holds, (), ("a",), 0, 0, "give 0"), True)
        self.assertEqual(refused_at(paper_holds, (), ("a",), 0, False, "give 0"), 3)
        self.assertEqual(refused_at(made, TABLE, False), 1)
        for function in (is_told, stands, mixup, strength):
            self.assertIsNone(refused_at(function, TABLE, MACHINE, 1))
            self.assertEqual(refused_at(function, TABLE, MACHINE, True), 2)
        self.assertIs(run(stands_hold, (), (1, (), ()), 0, [[[0, "", 0], [0, "", 0], "", "", False]]), True)
        self.assertIs(run(stands_hold, (), (1, (), ()), 0, [[[0, "", 0], [0, "", 0], "", "", 0]]), False)
        self.assertIs(run(stands_hold, (), (1, (), ()), 0, [[[False, "", 0], [0, "", 0], "", "", False]]), False)
        self.assertIs(run(is_machine, (1, (0,), ())), True)
        self.assertIs(run(is_machine, (True, (0,), ())), False)
        self.assertIs(run(is_table, (("a", "b", 1),)), True)
        self.assertIs(run(is_table, (("a", "b", True),)), False)


if __name__ == "__main__":
    unittest.main()
