"""The form of the package: its files, its interface, and some rules of its language."""

import ast
import builtins
import importlib
import inspect
import pathlib
import unittest

PACKAGE = pathlib.Path(__file__).resolve().parent.parent / "chance"

# The functions and classes that the interface lists, with their arguments.
INTERFACE = {
    "errors": {
        "Refused": None, "Malformed": ["at"], "Invalid": ["name"], "TooLarge": ["name"], "BadStep": ["number"],
        "Impossible": ["name"],
    },
    "ratios": {
        "ratio": ["top", "bottom"], "plus": ["one", "two"], "minus": ["one", "two"], "times": ["one", "two"],
        "over": ["one", "two"], "below": ["one", "two"], "total": ["ratios"],
    },
    "values": {
        "is_value": ["thing"], "compare": ["one", "two"], "ascending": ["values"], "place_of": ["value", "found"],
        "sum_of": ["value"], "size_of": ["value"], "apply": ["operation", "value"],
    },
    "checks": {"is_test": ["thing"], "holds": ["test", "value"]},
    "terms": {
        "is_term": ["thing"], "checked": ["thing"], "parts_of": ["term"], "uses": ["term", "name"], "is_closed": ["term", "names"],
        "substitute": ["term", "name", "value"], "unfolded": ["term"],
    },
    "tapes": {
        "Tape": ["numbers"], "run": ["term", "numbers"], "trimmed": ["numbers"], "paths": ["term"], "shorter": ["one", "two"],
        "tape_of": ["term", "value"],
    },
    "measure": {
        "Spread": None, "spread": ["term"], "chance": ["term", "test"], "conditional": ["term", "test"], "mean": ["term"],
    },
    "alias": {
        "build": ["weights"], "choose": ["columns", "column", "number"], "shares": ["columns", "whole"], "is_table": ["columns", "weights"],
    },
    "rules": {"apply_rule": ["name", "term", "numbers"]},
    "logs": {"is_step": ["thing"], "term_at": ["term", "path"], "stepped": ["term", "step"], "replay": ["term", "log"]},
    "normal": {"normal": ["term"], "same_chances": ["one", "two"]},
    "shrink": {
        "candidates": ["numbers"], "shrink": ["term", "test", "numbers"], "paper": ["term", "numbers"],
        "is_least": ["term", "test", "numbers", "told"],
    },
    "texts": {"parse": ["text"], "parse_test": ["text"], "show": ["term"], "show_test": ["test"]},
}

# The methods that the interface lists, with their arguments.
METHODS = {
    ("tapes", "Tape"): {"draw": ["self", "size"], "step": ["self"]},
    ("measure", "Spread"): {"of": ["self", "value"], "rows": ["self"]},
}

LIBRARY = {
    "heapq": {"heappush", "heappop", "heapify", "heapreplace", "heappushpop"},
    "math": {"gcd", "lcm", "isqrt", "comb", "perm", "factorial"},
    "itertools": {
        "product", "combinations", "permutations", "chain", "accumulate", "pairwise", "islice", "zip_longest",
    },
    "collections": {"defaultdict"},
}


# Those that the package uses of the ones that the language allows.
BUILTINS = {
    "Exception", "ValueError", "abs", "all", "any", "bool", "divmod", "enumerate", "int", "isinstance", "len", "list", "max", "min", "range", "reversed",
    "sorted", "str", "sum", "super", "tuple", "zip",
}


def sources():
    return [(path, path.read_text(encoding="utf-8")) for path in sorted(PACKAGE.glob("*.py"))]


class TestInterface(unittest.TestCase):
    def test_names_and_arguments(self):
        for file, names in INTERFACE.items():
            module = importlib.import_module("chance." + file)
            for name, arguments in names.items():
                with self.subTest(file=file, name=name):
                    thing = getattr(module, name)
                    self.assertEqual(thing.__module__, "chance." + file)
                    if arguments is not None:
                        self.assertEqual(list(inspect.signature(thing).parameters), arguments)

    def test_methods_stand_in_their_class(self):
        for (file, name), methods in METHODS.items():
            module = importlib.import_module("chance." + file)
            for method, arguments in methods.items():
                with self.subTest(file=file, name=name, method=method):
                    thing = vars(getattr(module, name))[method]
                    self.assertEqual(list(inspect.signature(thing).parameters), arguments)


class TestForm(unittest.TestCase):
    def test_folder_holds_only_plain_files(self):
        names = [path.name for path in PACKAGE.iterdir() if path.name != "__pycache__"]
        self.assertIn("__init__.py", names)
        for name in names:
            self.assertRegex(name, r"\A(__init__|__main__|[a-z][a-z0-9_]*)\.py\Z")

    def test_lines(self):
        for path, text in sources():
            with self.subTest(file=path.name):
                lines = text.split("\n")
                self.assertLessEqual(len(lines), 399)
                for line in lines:
                    self.assertLessEqual(len(line), 120)
                    self.assertTrue(all(" " <= character <= "~" for character in line), line)

    def test_functions_are_small(self):
        for path, text in sources():
            for node in ast.walk(ast.parse(text)):
                if isinstance(node, ast.FunctionDef):
                    with self.subTest(file=path.name, function=node.name):
                        self.assertLessEqual(node.end_lineno - node.lineno + 1, 40)

    def test_imports(self):
        for path, text in sources():
            for node in ast.walk(ast.parse(text)):
                self.assertNotIsInstance(node, ast.Import)
                if isinstance(node, ast.ImportFrom):
                    with self.subTest(file=path.name, module=node.module):
                        names = [alias.name for alias in node.names]
                        self.assertEqual(node.level, 0)
                        self.assertNotIn("*", names)
                        if not node.module.startswith("chance."):
                            self.assertLessEqual(set(names), LIBRARY.get(node.module, set()))

    def test_builtins(self):
        """No clock, no random source, no files: they would need a word that is not among these."""
        for path, text in sources():
            for node in ast.walk(ast.parse(text)):
                if isinstance(node, ast.Name) and node.id != "_" and hasattr(builtins, node.id):
                    with self.subTest(file=path.name, line=node.lineno):
                        self.assertIsInstance(node.ctx, ast.Load)
                        self.assertIn(node.id, BUILTINS)

    def test_no_floats_and_no_division(self):
        for path, text in sources():
            for node in ast.walk(ast.parse(text)):
                with self.subTest(file=path.name, line=getattr(node, "lineno", 0)):
                    self.assertNotIsInstance(node, ast.Div)
                    if isinstance(node, ast.Constant):
                        self.assertNotIsInstance(node.value, (float, complex))


if __name__ == "__main__":
    unittest.main()
