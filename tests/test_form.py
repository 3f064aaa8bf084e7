"""The form of the package's files, as far as it is easy to check, and where the interface stands."""

import ast
import pathlib
import re
import unittest
import warnings

PACKAGE = pathlib.Path(__file__).resolve().parent.parent / "siftchain"
BARRED = re.compile(
    r"\b(type|typing|typing_extensions|enum|Enum|IntEnum|StrEnum|Flag|IntFlag|Generic|Protocol|ABC|ABCMeta"
    r"|namedtuple|NamedTuple|TypedDict|TYPE_CHECKING|abstractmethod)\b|dataclass|overload|contextmanager"
)
CELL_NAMES = {"KIND", "__call__", "__eq__", "__neg__", "label"}
CHAIN_NAMES = {"MAX_CELLS", "text", "empty", "parse", "__call__", "__len__", "__getitem__", "__rshift__",
               "__neg__", "__eq__"}
CLASSES = {
    "errors.py": {name: set() for name in (
        "SiftError", "InvalidNumber", "InvalidChain", "UnknownCell", "InvalidRow", "InvalidText", "TooMany",
        "Contradiction", "InvalidName", "UnknownName", "InvalidOperation")},
    "cells.py": {"Cell": CELL_NAMES, "Last": CELL_NAMES, "Less": CELL_NAMES, "Greater": CELL_NAMES,
                 "Near": CELL_NAMES | {"__init__"}, "Chain": CHAIN_NAMES | {"__init__"}},
}
FUNCTIONS = {
    "flows.py": {
        "nth_out": ["chain", "row", "number"],
        "held_after": ["chain", "row", "ticks"],
        "find_cycle": ["chain", "row"],
        "count_out": ["chain", "row", "ticks"],
        "first_unlike": ["chain", "other", "row"],
    },
}


def sources():
    """Return the text of each file of the package by its name."""
    return {path.name: path.read_text(encoding="utf-8") for path in sorted(PACKAGE.glob("*.py"))}


def trees():
    return {name: ast.parse(text) for name, text in sources().items()}


def names_in(body):
    """Return the names that a class body defines itself."""
    names = set()
    for part in body:
        if isinstance(part, ast.FunctionDef):
            names.add(part.name)
        elif isinstance(part, ast.Assign):
            names.update(target.id for target in part.targets)
    return names


class FormTest(unittest.TestCase):
    def test_files(self):
        names = {path.name for path in PACKAGE.iterdir()} - {"__pycache__"}
        self.assertEqual(names, set(sources()))
        self.assertIn("__init__.py", names)

    def test_sizes_and_characters(self):
        for name, text in sources().items():
            with self.subTest(name=name):
                self.assertLessEqual(len(text.splitlines()), 399)
                self.assertLessEqual(max(len(line) for line in text.splitlines()), 120)
                self.assertTrue(all(sign == "\n" or " " <= sign <= "~" for sign in text))
                self.assertIsNone(BARRED.search(text))

    def test_functions_are_small(self):
        for name, tree in trees().items():
            for part in ast.walk(tree):
                if isinstance(part, ast.FunctionDef):
                    with self.subTest(name=name, function=part.name):
                        self.assertLessEqual(part.end_lineno - part.lineno + 1, 40)

    def test_imports_come_from_the_package(self):
        for name, tree in trees().items():
            for part in ast.walk(tree):
                with self.subTest(name=name):
                    self.assertNotIsInstance(part, ast.Import)
                    if isinstance(part, ast.ImportFrom):
                        self.assertEqual(part.level, 0)
                        self.assertTrue(part.module.startswith("siftchain."))

    def test_python_warns_of_nothing(self):
        with warnings.catch_warnings():
            warnings.simplefilter("error")
            for name, text in sources().items():
                compile(text, name, "exec")


class InterfaceTest(unittest.TestCase):
    def test_classes_and_their_own_methods(self):
        for name, classes in CLASSES.items():
            found = {part.name: part for part in trees()[name].body if isinstance(part, ast.ClassDef)}
            for word, wanted in classes.items():
                with self.subTest(file=name, name=word):
                    self.assertIn(word, found)
                    self.assertLessEqual(wanted, names_in(found[word].body))

    def test_functions_and_their_parameters(self):
        for name, functions in FUNCTIONS.items():
            found = {part.name: part for part in trees()[name].body if isinstance(part, ast.FunctionDef)}
            for word, wanted in functions.items():
                with self.subTest(file=name, name=word):
                    self.assertEqual([parameter.arg for parameter in found[word].args.args], wanted)


if __name__ == "__main__":
    unittest.main()
