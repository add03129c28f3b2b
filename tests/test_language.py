"""The rules of LANGUAGE.md that can be seen in one file without much ado."""

import ast
import builtins
import pathlib
import re
import unittest

PACKAGE = pathlib.Path(__file__).resolve().parent.parent / "slipworth"
LIBRARY = {
    "heapq": "heappush heappop heapify heapreplace heappushpop",
    "math": "gcd lcm isqrt comb perm factorial",
    "itertools": "product combinations permutations chain accumulate pairwise islice zip_longest",
    "collections": "defaultdict deque",
}
BUILTINS = """len range enumerate zip min max sum abs sorted reversed int str bool bytes list tuple dict set frozenset
    isinstance ord repr any all divmod pow getattr hasattr setattr iter next map type property staticmethod classmethod
    super Exception ValueError TypeError KeyError IndexError LookupError ZeroDivisionError ArithmeticError OverflowError
    RuntimeError NotImplementedError AttributeError StopIteration NotImplemented""".split()
METHODS = """append clear copy count endswith extend find get index insert isalnum isalpha isdigit islower isspace
    isupper items join keys ljust lower lstrip partition pop remove replace reverse rfind rjust rpartition rsplit
    rstrip setdefault split splitlines startswith strip update upper values zfill bit_length title capitalize swapcase
    casefold center expandtabs removeprefix removesuffix rindex isascii isdecimal isnumeric istitle isidentifier
    isprintable translate add discard sort format appendleft popleft extendleft rotate""".split()
OPERATORS = """lt le gt ge ne add sub mul floordiv mod pow and or xor lshift rshift radd rsub rmul rfloordiv rmod rand
    ror rxor rlshift rrshift iadd isub imul ifloordiv imod ipow iand ior ixor ilshift irshift neg pos invert abs bool
    contains getitem setitem init eq repr str len enter exit call iter slots""".split()
BARRED = re.compile(
    r"\b(mro|elements|open|input|law|version_info|with_traceback|add_note|register|eval|exec|compile|globals|locals"
    r"|typing|enum|Enum|Generic|Protocol|ABC|namedtuple|NamedTuple|async|await|import_module|_wall|_WallAttr)\b")


class Language(unittest.TestCase):
    def setUp(self):
        self.texts = {path: path.read_text() for path in sorted(PACKAGE.rglob("*.py"))}
        self.trees = {path: ast.parse(text) for path, text in self.texts.items()}

    def nodes(self, *kinds):
        """The nodes of these kinds in all files, each with a word on where it stands."""
        for path, tree in self.trees.items():
            for node in ast.walk(tree):
                if isinstance(node, kinds):
                    yield node, f"{path.name}, line {getattr(node, 'lineno', '?')}"

    def test_files(self):
        others = [path for path in PACKAGE.rglob("*") if path.is_file() and "__pycache__" not in path.parts]
        self.assertEqual(sorted(others), sorted(self.texts))
        for path, text in self.texts.items():
            with self.subTest(file=path.name):
                self.assertRegex(path.name, r"^(__init__|__main__|[a-z][a-z0-9_]*)\.py$")
                self.assertNotIn(path.stem, dir(builtins))
                self.assertLessEqual(len(text.splitlines()), 399)
                self.assertLessEqual(max(map(len, text.split("\n"))), 120)
                self.assertEqual(re.findall(r"[^ -~\n]", text), [])

    def test_functions(self):
        for node, place in self.nodes(ast.FunctionDef):
            self.assertLessEqual(node.end_lineno - node.lineno + 1, 40, place)

    def test_imports(self):
        for path, tree in self.trees.items():
            for node in ast.walk(tree):
                self.assertNotIsInstance(node, ast.Import)
                if isinstance(node, ast.ImportFrom):
                    self.assertIn(node, tree.body)
                    for alias in node.names:
                        self.assertIsNone(alias.asname)
                        self.assertIn(alias.name, self.names_of(node.module))

    def names_of(self, module):
        """The names that may be imported from the module."""
        if module in LIBRARY:
            return LIBRARY[module].split()
        path = PACKAGE.parent.joinpath(*module.split(".")).with_suffix(".py")
        defined = [node for node in self.trees[path].body if isinstance(node, (ast.FunctionDef, ast.ClassDef))]
        values = [node.targets[0].id for node in self.trees[path].body if isinstance(node, ast.Assign)]
        return [node.name for node in defined] + values

    def test_module_level(self):
        for path, tree in self.trees.items():
            bound = []
            for at, node in enumerate(tree.body):
                with self.subTest(file=path.name, line=node.lineno):
                    if isinstance(node, ast.ImportFrom):
                        bound += [alias.name for alias in node.names]
                    elif isinstance(node, ast.Assign):
                        self.assertIsInstance(node.targets[0], ast.Name)
                        self.assertEqual([call for call in ast.walk(node) if isinstance(call, ast.Call)], [])
                        bound.append(node.targets[0].id)
                    elif isinstance(node, (ast.FunctionDef, ast.ClassDef)):
                        bound.append(node.name)
                    else:
                        self.assertTrue(at == 0 and isinstance(node, ast.Expr))
            self.assertEqual(len(set(bound)), len(bound))

    def test_names(self):
        bound = set()
        for node, place in self.nodes(ast.Name, ast.arg, ast.FunctionDef, ast.ClassDef):
            name = getattr(node, "id", None) or getattr(node, "arg", None) or node.name
            is_special = re.fullmatch("__(" + "|".join(OPERATORS) + ")__", name)
            self.assertTrue(is_special or re.fullmatch(r"_|_?[A-Za-z][A-Za-z0-9_]*", name), place)
            if isinstance(node, ast.Name) and isinstance(node.ctx, ast.Load):
                self.assertTrue(name not in dir(builtins) or name in BUILTINS, place)
            else:
                bound.add(name)
        # doctest, as the console, leaves a builtin _ behind.
        self.assertEqual(bound & set(dir(builtins)) - {"_"}, set())

    def test_names_of_classes_and_imports_mean_one_thing(self):
        for path, tree in self.trees.items():
            taken = {node.name for node in tree.body if isinstance(node, ast.ClassDef)}
            for node in tree.body:
                taken |= {alias.name for alias in node.names} if isinstance(node, ast.ImportFrom) else set()
            for node in ast.walk(tree):
                if isinstance(node, ast.arg):
                    self.assertNotIn(node.arg, taken, path.name)
                if isinstance(node, ast.Name) and isinstance(node.ctx, ast.Store):
                    self.assertNotIn(node.id, taken, path.name)

    def test_imports_are_used_and_do_not_go_round(self):
        ahead = {}
        for path, tree in self.trees.items():
            used = {node.id for node in ast.walk(tree) if isinstance(node, ast.Name)}
            imports = [node for node in tree.body if isinstance(node, ast.ImportFrom)]
            for node in imports:
                self.assertLessEqual({alias.name for alias in node.names}, used, path.name)
            ahead[f"slipworth.{path.stem}"] = [node.module for node in imports if node.module not in LIBRARY]
        while ahead:
            ready = [name for name, modules in ahead.items() if not set(modules) & set(ahead)]
            self.assertNotEqual(ready, [])
            ahead = {name: modules for name, modules in ahead.items() if name not in ready}

    def test_methods_and_attributes_have_different_names(self):
        methods = {
            part.name for node, _ in self.nodes(ast.ClassDef) for part in node.body if isinstance(part, ast.FunctionDef)}
        attributes = {
            node.attr for node, _ in self.nodes(ast.Attribute) if isinstance(node.ctx, ast.Store)}
        self.assertEqual(methods & attributes, set())
        self.assertEqual(attributes & set(METHODS) - {"count", "index", "title", "find", "get", "join", "lower"}, set())

    def test_methods(self):
        own = {node.name for node, _ in self.nodes(ast.FunctionDef)}
        for node, place in self.nodes(ast.Call):
            if isinstance(node.func, ast.Attribute):
                self.assertIn(node.func.attr, own | set(METHODS), place)

    def test_values_and_signs(self):
        for node, place in self.nodes(ast.Constant):
            self.assertNotIsInstance(node.value, (float, complex), place)
            self.assertNotIn("%", node.value if isinstance(node.value, str) else "", place)
        for node, place in self.nodes(ast.Div, ast.AsyncFunctionDef):
            self.fail(place)
        for node, place in self.nodes(ast.Compare):
            for sign, side in zip(node.ops, node.comparators):
                if isinstance(sign, (ast.Is, ast.IsNot)):
                    self.assertIsInstance(side, ast.Constant, place)

    def test_barred_words(self):
        for path, text in self.texts.items():
            self.assertEqual(BARRED.findall(text), [], path.name)


if __name__ == "__main__":
    unittest.main()
