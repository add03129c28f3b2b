"""[14]: the errors, their attributes and their bases."""

import unittest

from slipworth import errors
from slipworth.errors import BadPaper, BadText, BadValue, Mixed, NotMeant, NoWord, SlipError, TooMany


class Errors(unittest.TestCase):
    def test_all_eight_stand_in_the_module(self):
        found = [name for name, value in vars(errors).items() if isinstance(value, type)]
        names = ["BadPaper", "BadText", "BadValue", "Mixed", "NoWord", "NotMeant", "SlipError", "TooMany"]
        self.assertEqual(sorted(found), names)
        for name in names:
            self.assertEqual(getattr(errors, name).__module__, "slipworth.errors")

    def test_bases(self):
        self.assertEqual(SlipError.__bases__, (Exception,))
        for error in (BadValue, BadText, BadPaper, NotMeant, NoWord, Mixed, TooMany):
            self.assertEqual(error.__bases__, (SlipError,))

    def test_at(self):
        for error in (BadValue, BadText, BadPaper):
            for at in (0, 1, 3, 10 ** 30):
                self.assertEqual(error(at).at, at)
                self.assertEqual(error(at=at).at, at)
                self.assertEqual(vars(error(at)), {"at": at})

    def test_the_very_thing_passed_is_kept(self):
        for thing in ("", "abc", None, True, 7, ["a", ["b"]], ("a",)):
            self.assertIs(NotMeant(thing).text, thing)
            self.assertIs(NotMeant(text=thing).text, thing)
            self.assertEqual(list(vars(NotMeant(thing))), ["text"])
            self.assertIs(NoWord(thing).word, thing)
            self.assertIs(NoWord(word=thing).word, thing)
            self.assertEqual(list(vars(NoWord(thing))), ["word"])

    def test_mixed_keeps_both(self):
        for error in (Mixed("ab", "ba"), Mixed(word="ab", text="ba"), Mixed(text="ba", word="ab")):
            self.assertEqual((error.word, error.text), ("ab", "ba"))
            self.assertEqual(vars(error), {"word": "ab", "text": "ba"})

    def test_too_many_has_no_argument(self):
        self.assertEqual(TooMany().args, ())
        self.assertEqual(vars(TooMany()), {})

    def test_an_argument_is_needed(self):
        for error in (BadValue, BadText, BadPaper, NotMeant, NoWord, Mixed):
            with self.assertRaises(TypeError):
                error()
        with self.assertRaises(TypeError):
            Mixed("a")

    def test_raised_and_caught_by_the_base(self):
        for error in (BadValue(0), BadText(0), BadPaper(0), NotMeant("a"), NoWord("a"), Mixed("a", "b"), TooMany()):
            with self.assertRaises(SlipError) as caught:
                raise error
            self.assertIs(caught.exception, error)


if __name__ == "__main__":
    unittest.main()
