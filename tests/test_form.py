"""The form of the package's files, as far as it is easy to check, and where the interface stands."""

import ast
import builtins
import pathlib
import re
import unittest
import warnings

PACKAGE = pathlib.Path(__file__).resolve().parent.parent / "siftchain"
BARRED = re.compile(
    r"\b(type|typing|typing_extensions|enum|Enum|IntEnum|StrEnum|Flag|IntFlag|Generic|Protocol|ABC|ABCMeta"
    r"|namedtuple|NamedTuple|TypedDict|TYPE_CHECKING|abstractmethod)\b|dataclass|overload|contextmanager"
)
CELL_NAMES = {"KIND", "__call__", "__eq__", "__neg__", "label"}
CHAIN_NAMES = {"MAX_CELLS", "text", "empty", "parse", "__call__", "__len__", "__getitem__", "__rshift__",
               "__neg__", "__eq__"}
CLASSES = {
    "errors.py": {name: set() for name in (
        "SiftError", "InvalidNumber", "InvalidChain", "UnknownCell", "InvalidRow", "InvalidText", "TooMany",
        "Contradiction", "InvalidName", "UnknownName", "InvalidOperation")},
    "cells.py": {"Cell": CELL_NAMES, "Last": CELL_NAMES, "Less": CELL_NAMES, "Greater": CELL_NAMES,
                 "Near": CELL_NAMES | {"__init__"}, "Chain": CHAIN_NAMES | {"__init__"}},
    "hidden.py": {"Observer": {"__init__", "see", "see_all", "possible", "history", "best_number"}},
    "worktop.py": {"Worktop": {"__init__", "put", "take", "swap", "undo", "redo", "chain_now", "held", "let_out",
                               "operations", "save", "restore", "batch", "replay"}},
}
# What each method takes beside its own object or class; properties are not listed.
METHODS = {
    ("hidden.py", "Observer"): {"__init__": ["chain", "index"], "see": ["number", "out"], "see_all": ["*pairs"],
                                "best_number": ["numbers"]},
    ("worktop.py", "Worktop"): {"__init__": ["chain"], "put": ["number"], "take": ["index"], "swap": ["index"],
                                "undo": [], "redo": [], "save": ["name"], "restore": ["name"],
                                "batch": ["operations"], "replay": ["chain", "operations"]},
}
PROPERTIES = {
    ("hidden.py", "Observer"): {"possible", "history"},
    ("worktop.py", "Worktop"): {"chain_now", "held", "let_out", "operations"},
}
FUNCTIONS = {
    "flows.py": {
        "nth_out": ["chain", "row", "number"],
        "held_after": ["chain", "row", "ticks"],
        "find_cycle": ["chain", "row"],
        "count_out": ["chain", "row", "ticks"],
        "first_unlike": ["chain", "other", "row"],
    },
    "tracing.py": {
        "earlier": ["chain", "held", "out"],
        "rows_behind": ["chain", "held", "outs"],
        "telling_row": ["chain", "other", "numbers"],
        "chain_for": ["row", "outs"],
    },
}
# The builtins and the methods of builtin values that the package may use, of those that the rules list.
BUILTINS = {
    "len", "range", "enumerate", "zip", "min", "max", "sum", "abs", "sorted", "reversed", "int", "str", "bool", "list",
    "tuple", "dict", "set", "isinstance", "ord", "repr", "any", "all", "divmod", "ValueError", "TypeError", "super",
    "property", "classmethod",
}
BUILTIN_METHODS = {
    "append", "clear", "copy", "count", "endswith", "extend", "find", "get", "index", "insert", "items", "join",
    "keys", "pop", "remove", "replace", "reverse", "setdefault", "split", "startswith", "strip", "update", "values",
    "isdigit", "isascii", "removeprefix",
}


def sources():
    """Return the text of each file of the package by its name."""
    return {path.name: path.read_text(encoding="utf-8") for path in sorted(PACKAGE.glob("*.py"))}


def trees():
    return {name: ast.parse(text) for name, text in sources().items()}


def names_in(body):
    """Return the names that a class body defines itself."""
    names = set()
    for part in body:
        if isinstance(part, ast.FunctionDef):
            names.add(part.name)
        elif isinstance(part, ast.Assign):
            names.update(target.id for target in part.targets)
    return names


def functions_of(body):
    """Return the functions that a file or a class defines, by name."""
    return {part.name: part for part in body if isinstance(part, ast.FunctionDef)}


def class_of(name, word):
    """Return the tree of a class."""
    return next(part for part in trees()[name].body if isinstance(part, ast.ClassDef) and part.name == word)


def everywhere(kind):
    """Return all parts of a kind in all files."""
    return [part for tree in trees().values() for part in ast.walk(tree) if isinstance(part, kind)]


def own_methods():
    return {part.name for group in everywhere(ast.ClassDef) for part in functions_of(group.body).values()}


class FormTest(unittest.TestCase):
    def test_files(self):
        names = {path.name for path in PACKAGE.iterdir()} - {"__pycache__"}
        self.assertEqual(names, set(sources()))
        self.assertIn("__init__.py", names)

    def test_sizes_and_characters(self):
        for name, text in sources().items():
            with self.subTest(name=name):
                self.assertLessEqual(len(text.splitlines()), 399)
                self.assertLessEqual(max(len(line) for line in text.splitlines()), 120)
                self.assertTrue(all(sign == "\n" or " " <= sign <= "~" for sign in text))
                self.assertIsNone(BARRED.search(text))

    def test_functions_are_small(self):
        for name, tree in trees().items():
            for part in ast.walk(tree):
                if isinstance(part, ast.FunctionDef):
                    with self.subTest(name=name, function=part.name):
                        self.assertLessEqual(part.end_lineno - part.lineno + 1, 40)

    def test_imports_come_from_the_package(self):
        for name, tree in trees().items():
            for part in ast.walk(tree):
                with self.subTest(name=name):
                    self.assertNotIsInstance(part, ast.Import)
                    if isinstance(part, ast.ImportFrom):
                        self.assertEqual(part.level, 0)
                        self.assertTrue(part.module.startswith("siftchain."))

    def test_names_are_plain(self):
        for part in everywhere((ast.Name, ast.Attribute, ast.FunctionDef, ast.arg)):
            for field in ("id", "attr", "name", "arg"):
                word = getattr(part, field, "a")
                with self.subTest(word=word):
                    self.assertTrue(word.startswith("__") and word.endswith("__") or not word.startswith("_"))

    def test_builtins_are_listed_ones_and_keep_their_names(self):
        for part in everywhere(ast.Name):
            if hasattr(builtins, part.id):
                with self.subTest(word=part.id):
                    self.assertIn(part.id, BUILTINS)
                    self.assertIsInstance(part.ctx, ast.Load)
        for part in everywhere(ast.arg):
            self.assertFalse(hasattr(builtins, part.arg), part.arg)

    def test_methods_are_listed_ones(self):
        for part in everywhere(ast.Call):
            if isinstance(part.func, ast.Attribute):
                with self.subTest(word=part.func.attr):
                    self.assertIn(part.func.attr, BUILTIN_METHODS | own_methods())

    def test_no_name_is_a_method_and_an_attribute(self):
        stored = {part.attr for part in everywhere(ast.Attribute) if isinstance(part.ctx, ast.Store)}
        self.assertEqual(stored & own_methods(), set())

    def test_attributes_that_are_read_are_stored(self):
        stored = {part.attr for part in everywhere(ast.Attribute) if isinstance(part.ctx, ast.Store)}
        values = {"KIND", "MAX_CELLS"}
        for part in everywhere(ast.Attribute):
            self.assertIn(part.attr, stored | values | BUILTIN_METHODS | own_methods())

    def test_what_is_not_used(self):
        barred = (ast.GeneratorExp, ast.Yield, ast.YieldFrom, ast.Global, ast.AsyncFunctionDef, ast.Await, ast.Div,
                  ast.Set, ast.AnnAssign, ast.NamedExpr, ast.Match, ast.With)
        self.assertEqual(everywhere(barred), [])
        for part in everywhere(ast.Compare):
            for sign, beside in zip(part.ops, part.comparators):
                if isinstance(sign, (ast.Is, ast.IsNot)):
                    self.assertIsInstance(beside, ast.Constant)
        for part in everywhere(ast.Constant):
            self.assertNotIsInstance(part.value, float)

    def test_python_warns_of_nothing(self):
        with warnings.catch_warnings():
            warnings.simplefilter("error")
            for name, text in sources().items():
                compile(text, name, "exec")


class InterfaceTest(unittest.TestCase):
    def test_classes_and_their_own_methods(self):
        for name, classes in CLASSES.items():
            found = {part.name: part for part in trees()[name].body if isinstance(part, ast.ClassDef)}
            for word, wanted in classes.items():
                with self.subTest(file=name, name=word):
                    self.assertIn(word, found)
                    self.assertLessEqual(wanted, names_in(found[word].body))

    def test_methods_and_their_parameters(self):
        for (name, word), methods in METHODS.items():
            found = functions_of(class_of(name, word).body)
            for method, wanted in methods.items():
                names = [parameter.arg for parameter in found[method].args.args[1:]]
                if found[method].args.vararg:
                    names.append("*" + found[method].args.vararg.arg)
                with self.subTest(file=name, method=method):
                    self.assertEqual(names, wanted)
                    self.assertEqual(found[method].args.defaults, [])

    def test_properties_and_class_methods(self):
        for (name, word), wanted in PROPERTIES.items():
            found = functions_of(class_of(name, word).body)
            marked = {part.name: [mark.id for mark in part.decorator_list] for part in found.values()}
            self.assertEqual({method for method in marked if marked[method] == ["property"]}, wanted)
        found = functions_of(class_of("worktop.py", "Worktop").body)
        self.assertEqual([mark.id for mark in found["replay"].decorator_list], ["classmethod"])

    def test_functions_and_their_parameters(self):
        for name, functions in FUNCTIONS.items():
            found = functions_of(trees()[name].body)
            for word, wanted in functions.items():
                with self.subTest(file=name, name=word):
                    self.assertEqual([parameter.arg for parameter in found[word].args.args], wanted)


if __name__ == "__main__":
    unittest.main()
