"""What the interface lists exists as written, in the file under which it is listed."""

import ast
import importlib
import inspect
import pathlib
import unittest

FOLDER = pathlib.Path(__file__).resolve().parent.parent / "boundwatch"

CLASSES = {
    "errors": ["BoundError", "BadShelves", "BadRow"],
}
FUNCTIONS = {
    "stretches": {
        "plus": ["one", "other"],
        "minus": ["one", "other"],
        "times": ["one", "other"],
        "rest": ["one", "by"],
        "joined": ["one", "other"],
        "met": ["one", "other"],
        "rounded": ["one", "marks"],
    },
    "words": {
        "worth": ["expression", "held"],
        "holds": ["condition", "held"],
    },
}


def defined(file_name, kind):
    """The names that the file's own statements define, in its top rows."""
    tree = ast.parse((FOLDER / (file_name + ".py")).read_text())
    return [node.name for node in tree.body if isinstance(node, kind)]


class InterfaceTest(unittest.TestCase):
    def test_classes_are_defined_in_their_file(self):
        for file_name, names in CLASSES.items():
            module = importlib.import_module("boundwatch." + file_name)
            for name in names:
                with self.subTest(file=file_name, name=name):
                    self.assertIn(name, defined(file_name, ast.ClassDef))
                    self.assertTrue(inspect.isclass(getattr(module, name)))

    def test_functions_are_defined_in_their_file_with_their_arguments(self):
        for file_name, functions in FUNCTIONS.items():
            module = importlib.import_module("boundwatch." + file_name)
            for name, arguments in functions.items():
                with self.subTest(file=file_name, name=name):
                    self.assertIn(name, defined(file_name, ast.FunctionDef))
                    told = inspect.signature(getattr(module, name)).parameters
                    self.assertEqual(list(told), arguments)

    def test_limit(self):
        from boundwatch.stretches import LIMIT
        self.assertEqual(LIMIT, 1000000)
        self.assertIs(type(LIMIT), int)


class LanguageTest(unittest.TestCase):
    """Those rules of the program's subset of Python that a few rows can check."""

    def files(self):
        return sorted(FOLDER.rglob("*.py"))

    def test_the_folder_holds_nothing_else(self):
        for path in FOLDER.rglob("*"):
            if path.is_file() and "__pycache__" not in path.parts:
                self.assertEqual(path.suffix, ".py", path)

    def test_sizes_and_characters(self):
        for path in self.files():
            text = path.read_text(encoding="utf-8")
            lines = text.split("\n")
            with self.subTest(file=path.name):
                self.assertLessEqual(len(lines), 399)
                self.assertLessEqual(max(len(line) for line in lines), 120)
                self.assertEqual([c for c in text if c != "\n" and not " " <= c <= "~"], [])

    def test_functions_are_short(self):
        for path in self.files():
            for node in ast.walk(ast.parse(path.read_text())):
                if isinstance(node, ast.FunctionDef):
                    with self.subTest(file=path.name, name=node.name):
                        self.assertLessEqual(node.end_lineno - node.lineno + 1, 40)

    def test_imports_come_from_the_package_alone(self):
        library = ("heapq", "math", "itertools", "collections", "__future__")
        for path in self.files():
            for node in ast.walk(ast.parse(path.read_text())):
                self.assertNotIsInstance(node, ast.Import, path)
                if isinstance(node, ast.ImportFrom) and node.module not in library:
                    self.assertTrue(node.module.startswith("boundwatch."), path)
