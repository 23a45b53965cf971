"""The package as a whole: its interface, and the rules of the language that a reading of it shows."""

import ast
import builtins
import importlib
import inspect
import os
import re
import unittest
import warnings

ROOT = os.path.dirname(os.path.dirname(os.path.abspath(__file__)))
FOLDER = os.path.join(ROOT, "changeview")

# What the interface lists, file by file: the arguments of each function, None for a class.
INTERFACE = {
    "errors": {
        "ChangeError": None, "BadView": None, "NoTable": None, "NoView": None,
        "BadRow": None, "Lacking": None, "Full": None,
    },
    "heaps": {
        "added": ["one", "other"], "turned": ["heap"], "heaped": ["pairs"], "listed": ["heap"],
    },
    "works": {
        "within": ["heap", "column", "low", "high"], "columns": ["heap", "picked"],
        "meet": ["one", "other", "pairs"], "once": ["heap"],
        "sums": ["heap", "keys", "column"], "reach": ["heap"],
    },
    "views": {"width_of": ["view", "widths"], "answered": ["view", "heaps"]},
    "keeper": {"Keeper": None},
}

# What the interface lists of a class: its own arguments, and each method with its arguments.
CLASSES = {
    ("keeper", "Keeper"): {
        "__init__": ["self", "widths"], "put": ["self", "view"],
        "change": ["self", "table", "pairs"], "answer": ["self", "number"],
        "table": ["self", "table"],
    },
}

# No clock, chance, files or network can be reached through these.
LIBRARY = {
    "heapq": {"heappush", "heappop", "heapify", "heapreplace", "heappushpop"},
    "math": {"gcd", "lcm", "isqrt", "comb", "perm", "factorial"},
    "itertools": {
        "product", "combinations", "permutations",
        "chain", "accumulate", "pairwise", "islice", "zip_longest",
    },
    "collections": {"defaultdict", "deque"},
    "__future__": {"annotations"},
}

BUILTINS = set(
    "len range enumerate zip min max sum abs sorted reversed int str bool bytes list tuple dict set"
    " frozenset isinstance ord chr repr any all divmod pow getattr hasattr setattr iter next map"
    " type super property staticmethod classmethod object float True False None NotImplemented"
    " Exception ValueError TypeError KeyError IndexError LookupError ZeroDivisionError"
    " ArithmeticError OverflowError RuntimeError NotImplementedError AttributeError"
    " StopIteration".split()
)


def sources():
    """The text of each file of the package, by its name."""
    texts = {}
    for name in sorted(os.listdir(FOLDER)):
        if name != "__pycache__":
            with open(os.path.join(FOLDER, name), encoding="utf-8", newline="") as held:
                texts[name] = held.read()
    return texts


def nodes():
    """Each node of each file's tree, with the file's name."""
    for name, text in sources().items():
        for node in ast.walk(ast.parse(text)):
            yield name, node


class Interface(unittest.TestCase):
    def test_each_name_is_defined_in_its_own_file(self):
        for file, names in INTERFACE.items():
            defined = {
                node.name for node in ast.parse(sources()[file + ".py"]).body
                if isinstance(node, (ast.FunctionDef, ast.ClassDef))
            }
            for name in names:
                with self.subTest(file=file, name=name):
                    self.assertIn(name, defined)

    def test_each_function_has_the_arguments_listed(self):
        for file, names in INTERFACE.items():
            module = importlib.import_module("changeview." + file)
            for name, arguments in names.items():
                with self.subTest(file=file, name=name):
                    if arguments is None:
                        self.assertTrue(inspect.isclass(getattr(module, name)))
                    else:
                        told = inspect.signature(getattr(module, name))
                        self.assertEqual(list(told.parameters), arguments)

    def test_each_class_has_its_methods_in_its_own_body(self):
        for (file, name), methods in CLASSES.items():
            owner = getattr(importlib.import_module("changeview." + file), name)
            for method, arguments in methods.items():
                with self.subTest(file=file, name=name, method=method):
                    self.assertIn(method, vars(owner))
                    told = inspect.signature(vars(owner)[method])
                    self.assertEqual(list(told.parameters), arguments)


class Language(unittest.TestCase):
    def test_the_folder_holds_plain_files_alone(self):
        self.assertIn("__init__.py", sources())
        for name in sources():
            with self.subTest(name=name):
                self.assertRegex(name, r"^([a-z][a-z0-9_]*|__init__)\.py$")

    def test_imports_reach_no_clock_no_chance_and_no_files(self):
        for name, node in nodes():
            with self.subTest(name=name):
                self.assertNotIsInstance(node, ast.Import)
                if isinstance(node, ast.ImportFrom):
                    self.assertEqual(node.level, 0)
                    for alias in node.names:
                        inner = re.fullmatch(r"changeview\.[a-z0-9_]+", node.module)
                        known = alias.name in LIBRARY.get(node.module, ())
                        self.assertTrue(inner or known, node.module + "." + alias.name)

    def test_no_other_builtin_is_named(self):
        barred = set(dir(builtins)) - BUILTINS
        for name, node in nodes():
            if isinstance(node, ast.Name):
                with self.subTest(name=name, line=node.lineno):
                    self.assertNotIn(node.id, barred)

    def test_nothing_runs_and_no_state_is_held_at_module_level(self):
        for name, text in sources().items():
            for node in ast.parse(text).body:
                with self.subTest(name=name, line=node.lineno):
                    docstring = isinstance(node, ast.Expr) and isinstance(node.value, ast.Constant)
                    plain = (ast.ImportFrom, ast.FunctionDef, ast.ClassDef, ast.Assign)
                    self.assertTrue(docstring or isinstance(node, plain))

    def test_no_float_and_no_plain_division(self):
        for name, node in nodes():
            with self.subTest(name=name):
                self.assertNotIsInstance(node, ast.Div)
                if isinstance(node, ast.Constant):
                    self.assertNotIsInstance(node.value, (float, complex))

    def test_sizes_and_characters(self):
        for name, text in sources().items():
            with self.subTest(name=name):
                self.assertRegex(text, r"\A[ -~\n]*\Z")
                self.assertLessEqual(len(text.split("\n")), 399)
                self.assertLessEqual(max(len(line) for line in text.split("\n")), 120)
        for name, node in nodes():
            if isinstance(node, ast.FunctionDef):
                with self.subTest(name=name, function=node.name):
                    self.assertLessEqual(node.end_lineno - node.lineno + 1, 40)

    def test_python_warns_of_nothing(self):
        with warnings.catch_warnings():
            warnings.simplefilter("error")
            for name, text in sources().items():
                compile(text, name, "exec")


if __name__ == "__main__":
    unittest.main()
