"""[40], [41] and [12]: tables as texts."""

import itertools
import random
import re
import unittest

from slipworth.errors import BadText
from slipworth.prices import is_table
from slipworth.texts import parse, printed
from tests.helper import NOTHINGS, forms, nested, refused_at, run
from tests.test_prices import any_table

TABLE = (("", "a", 2), ("a", "", 2), ("a", "b", 4), ("ab", "ba", 1))
TEXT = "- > a 2\na > - 2\na > b 4\nab > ba 1\n"
EIGHT = (
    ("", "aa", 1), ("", "b", 9), ("a", "", 2), ("ab", "", 3), ("ab", "a", 4), ("b", "fe", 5), ("f", "e", 6),
    ("fe", "ef", 7))
# Lines with words that are those of no fault.
NO_LINES = (
    "a", "a >", "a > b", "a > b 1 1", "a b 1", "> b 1", "a > 1", "> > > >", "a>b 1", "a> b 1", "a >b 1", "a > b1", "a>b1",
    "a < b 1", "a - b 1", "a >> b 1", "a = b 1", "1 > a b", "b 1 > a", "a > b 1 #", "# a > b 1", "a > b 1.", "a > b +1",
    "a > b -1", "a > b 01", "a > b 10", "a > b 0", "a > b 00", "a > b 11", "a > b x", "a > b -", "a > b >", "a > b a",
    "a > b 1a", "a > a 1", "- > - 1", "ab > ab 9", "abc > a 1", "a > abc 1", "g > a 1", "a > g 1", "A > b 1", "a > B 1",
    "-a > b 1", "a- > b 1", "a > -- 1", "-- > a 1", "a > \"\" 1", "'a' > b 1", "0 > a 1", "a > 0 1", "a , b 1",
    "a > b 1,", "aa > b 1 ;", "ag > b 1", "a > bg 1", "-", ">", "1", "- -", "- > 1", "- 1 > a", "a\\n", "a > b _1")


def bad_text_at(text):
    """The line that BadText tells, None if the text is that of a table."""
    try:
        run(parse, text)
    except BadText as error:
        assert type(error.at) is int
        return error.at
    return None


def read(text):
    """The table of a text, or the number of its first wrong line, by the words of [41]."""
    faults = {}
    lines = text.split("\n")
    if not lines[-1]:
        lines.pop()
    for at, line in enumerate(lines):
        if not line.strip(" "):
            continue
        match = re.fullmatch(" *(-|[a-f]{1,2}) +> +(-|[a-f]{1,2}) +([1-9]) *", line)
        if not match:
            return at
        pieces = tuple(piece.strip("-") for piece in match.groups()[:2])
        if pieces[0] == pieces[1] or pieces in faults or len(faults) == 8:
            return at
        faults[pieces] = int(match.group(3))
    return tuple((*pieces, faults[pieces]) for pieces in sorted(faults))


class Printed(unittest.TestCase):
    def test_the_table_of_the_overview(self):
        self.assertEqual(run(printed, TABLE), TEXT)
        for table in forms(TABLE):
            self.assertEqual(run(printed, table=table), TEXT)

    def test_without_a_fault(self):
        self.assertEqual(run(printed, ()), "")
        self.assertEqual(run(printed, []), "")

    def test_eight_faults_and_nine(self):
        self.assertEqual(
            run(printed, EIGHT),
            "- > aa 1\n- > b 9\na > - 2\nab > - 3\nab > a 4\nb > fe 5\nf > e 6\nfe > ef 7\n")
        self.assertEqual(refused_at(printed, EIGHT + (("ff", "", 1),)), 0)

    def test_no_table(self):
        for wrong in NOTHINGS + (0, "", TEXT, TABLE[::-1], TABLE + TABLE[:1], (("a", "b", 0),), (("a", "a", 1),)):
            self.assertEqual(refused_at(printed, wrong), 0)


class Parse(unittest.TestCase):
    def test_what_printed_gives(self):
        for table in ((), TABLE, EIGHT, TABLE[:1], TABLE[1:2], TABLE[3:], (("", "ab", 9),), (("ab", "", 1),)):
            self.assertEqual(run(parse, run(printed, table)), table)
            self.assertEqual(run(parse, text=run(printed, [list(fault) for fault in table])), table)
        chance = random.Random(12)
        for _ in range(500):
            table = any_table(chance, chance.choice(("ab", "abcdef")))
            self.assertEqual(run(parse, run(printed, table)), table)

    def test_every_fault_alone(self):
        pieces = [""] + list("af") + ["ab", "ba", "ff"]
        for meant, written in itertools.permutations(pieces, 2):
            for cost in range(1, 10):
                table = ((meant, written, cost),)
                self.assertEqual(run(printed, table), f"{meant or '-'} > {written or '-'} {cost}\n")
                self.assertEqual(run(parse, run(printed, table)), table)

    def test_lines_in_any_sequence(self):
        lines = TEXT.splitlines()
        for mixed in itertools.permutations(lines):
            self.assertEqual(run(parse, "\n".join(mixed)), TABLE)
            self.assertEqual(run(parse, "\n".join(mixed) + "\n"), TABLE)
        lines = run(printed, EIGHT).splitlines()
        self.assertEqual(run(parse, "\n".join(lines[::-1])), EIGHT)

    def test_spaces_before_between_and_behind_words(self):
        for text in (
                "   a > b 1\n", "a   > b 1\n", "a >   b 1\n", "a > b   1\n", "a > b 1   \n", "  a  >  b  1  ",
                " " * 1000 + "a" + " " * 1000 + ">" + " " * 1000 + "b" + " " * 1000 + "1" + " " * 900):
            self.assertEqual(run(parse, text), (("a", "b", 1),))
        self.assertEqual(run(parse, TEXT.replace(" ", "   ").replace("\n", "  \n  ")), TABLE)

    def test_lines_without_words(self):
        for text in ("", "\n", "\n\n\n", " ", "   \n", " \n \n   ", "\n" * 5000, " " * 5000):
            self.assertEqual(run(parse, text), ())
        for between in ("\n", "\n\n", "\n   \n", "\n \n\n  \n"):
            text = TEXT.replace("\n", between + "\n")
            self.assertEqual(run(parse, text), TABLE)
            self.assertEqual(run(parse, between + text), TABLE)
            self.assertEqual(run(parse, text + between + "   "), TABLE)

    def test_without_the_last_line_feed(self):
        self.assertEqual(run(parse, TEXT[:-1]), TABLE)
        self.assertEqual(run(parse, "a > b 1"), (("a", "b", 1),))
        self.assertEqual(bad_text_at(TEXT[:-2]), 3)

    def test_each_wrong_line_in_each_place(self):
        lines = TEXT.splitlines()
        for wrong in NO_LINES:
            for at in range(len(lines) + 1):
                for behind in ("\n", ""):
                    with self.subTest(line=wrong, at=at):
                        text = "\n".join(lines[:at] + [wrong] + lines[at:]) + behind
                        self.assertEqual(bad_text_at(text), at)
                        self.assertEqual(bad_text_at("\n  \n" + text), at + 2)
                        self.assertEqual(bad_text_at("  " + text.replace("\n", "  \n ")), at)

    def test_of_two_wrong_lines_the_first_is_told(self):
        lines = TEXT.splitlines()
        for one, other in itertools.permutations(NO_LINES[::4] + ("a > b 4", "a > - 9"), 2):
            self.assertEqual(bad_text_at("\n".join(lines[:3] + [one, other] + lines[3:])), 3)
            self.assertEqual(bad_text_at("\n".join(lines[:3] + [one] + lines[3:] + [other])), 3)

    def test_the_pieces_of_an_earlier_line(self):
        lines = TEXT.splitlines()
        for at, line in enumerate(lines):
            for cost in "123456789":
                again = line[:-1] + cost
                self.assertEqual(bad_text_at("\n".join(lines + [again])), 4)
                self.assertEqual(bad_text_at("\n".join([again] + lines)), at + 1)
                self.assertEqual(bad_text_at("\n".join(lines[:at + 1] + ["", again] + lines[at + 1:])), at + 2)
        self.assertEqual(run(parse, "a > b 1\nb > a 1\n"), (("a", "b", 1), ("b", "a", 1)))

    def test_a_ninth_fault(self):
        text = run(printed, EIGHT)
        self.assertEqual(bad_text_at(text + "ff > - 1\n"), 8)
        self.assertEqual(bad_text_at("ff > - 1\n" + text), 8)
        self.assertEqual(bad_text_at(text + "\n\n  \nff > - 1\nff > a 1"), 11)
        self.assertEqual(bad_text_at(text + "f > e 6\n"), 8)
        self.assertEqual(bad_text_at(text + "x"), 8)
        self.assertEqual(run(parse, text + "\n\n   "), EIGHT)

    def test_what_is_no_string(self):
        for wrong in NOTHINGS + (0, 1, (), [], TABLE, [TEXT], (TEXT,), ["a > b 1"], nested(20, TEXT), [0] * 5000):
            for value in forms(wrong) + (wrong,):
                self.assertEqual(bad_text_at(value), 0)

    def test_large_texts(self):
        self.assertEqual(bad_text_at("a" * 5000), 0)
        self.assertEqual(bad_text_at("\n" * 4990 + "a"), 4990)
        self.assertEqual(bad_text_at("a > b 1\n" * 600), 1)
        self.assertEqual(run(parse, "\n" * 4990 + "a > b 1"), (("a", "b", 1),))

    def test_many_texts(self):
        chance = random.Random(41)
        told = 0
        for _ in range(4000):
            lines = run(printed, any_table(chance, "ab")).splitlines()
            chance.shuffle(lines)
            text = "\n".join(lines) + chance.choice(("", "\n"))
            for _ in range(chance.randint(0, 3)):
                at = chance.randint(0, len(text))
                cut = at + chance.choice((0, 0, 1))
                text = text[:at] + chance.choice((" ", " ", "\n", "-", "a", "b", ">", "1", "0", "")) + text[cut:]
            expected = read(text)
            if isinstance(expected, int):
                self.assertEqual(bad_text_at(text), expected)
            else:
                told += 1
                self.assertEqual(run(parse, text), expected)
                self.assertIs(is_table(expected), True)
        self.assertTrue(1000 < told < 3000, told)


if __name__ == "__main__":
    unittest.main()
