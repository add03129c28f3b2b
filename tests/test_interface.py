"""The interface: each name stands in its file, with its arguments."""

import doctest
import inspect
import pathlib
import unittest

from slipworth import errors, machines, marking, meanings, mixups, prices, spellers, tables, texts

FUNCTIONS = {
    machines: {
        "is_machine": ["value"],
        "tells": ["machine", "word"],
        "first_words": ["machine", "limit"],
        "least_machine": ["machine"],
        "machine_of": ["words"],
    },
    prices: {
        "is_table": ["value"],
        "price": ["table", "word", "text"],
        "cut": ["table", "word", "text"],
        "typed": ["table", "word", "most"],
    },
    meanings: {
        "within": ["table", "machine", "text", "most"],
        "meant": ["table", "machine", "text", "most"],
    },
    mixups: {
        "is_told": ["table", "machine", "most"],
        "stands": ["table", "machine", "most"],
        "stands_hold": ["table", "machine", "most", "value"],
        "mixup": ["table", "machine", "most"],
        "strength": ["table", "machine", "limit"],
    },
    tables: {
        "is_alike": ["one", "other"],
        "unlike": ["one", "other"],
        "least_table": ["table"],
    },
    marking: {
        "shared": ["table", "one", "other", "most"],
        "sharing": ["table", "words", "most"],
        "marks": ["table", "words", "most"],
        "paper": ["table", "words", "most"],
        "paper_holds": ["table", "words", "most", "count", "text"],
    },
    texts: {
        "printed": ["table"],
        "parse": ["text"],
    },
}
METHODS = {
    "__init__": ["table", "most"], "put": ["word"], "take": ["word"], "words": [], "read": ["text"],
    "retable": ["table"], "__contains__": None, "__len__": []}
ERRORS = {
    "BadValue": ["at"], "BadText": ["at"], "BadPaper": ["at"], "NotMeant": ["text"], "NoWord": ["word"],
    "Mixed": ["word", "text"]}


class Interface(unittest.TestCase):
    def test_functions(self):
        for module, functions in FUNCTIONS.items():
            for name, arguments in functions.items():
                function = getattr(module, name)
                self.assertTrue(inspect.isfunction(function))
                self.assertEqual(function.__module__, module.__name__)
                self.check_parameters(function, arguments)

    def check_parameters(self, function, arguments):
        parameters = inspect.signature(function).parameters
        self.assertEqual(list(parameters), arguments)
        for parameter in parameters.values():
            self.assertEqual(parameter.kind, parameter.POSITIONAL_OR_KEYWORD)
            self.assertIs(parameter.default, parameter.empty)

    def test_the_class(self):
        self.assertTrue(inspect.isclass(spellers.Speller))
        self.assertEqual(spellers.Speller.__module__, "slipworth.spellers")
        self.check_parameters(spellers.Speller, ["table", "most"])
        for name, arguments in METHODS.items():
            method = vars(spellers.Speller)[name]
            self.assertTrue(inspect.isfunction(method))
            if arguments is not None:
                self.check_parameters(method, ["self"] + arguments)

    def test_errors(self):
        for name, arguments in ERRORS.items():
            self.assertEqual(list(inspect.signature(getattr(errors, name)).parameters), arguments)

    def test_what_the_readme_shows(self):
        readme = pathlib.Path(__file__).resolve().parent.parent / "README.md"
        found = doctest.testfile(str(readme), module_relative=False)
        self.assertEqual((found.failed, found.attempted > 5), (0, True))


if __name__ == "__main__":
    unittest.main()
