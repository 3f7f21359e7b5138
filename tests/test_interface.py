"""What the interface lists exists as written, in the file under which it is listed."""

import ast
import importlib
import inspect
import pathlib
import unittest

FOLDER = pathlib.Path(__file__).resolve().parent.parent / "boundwatch"

CLASSES = {
    "errors": ["BoundError", "BadShelves", "BadRow"],
    "programs": ["Program"],
    "running": ["Run"],
}
FUNCTIONS = {
    "stretches": {
        "plus": ["one", "other"],
        "minus": ["one", "other"],
        "times": ["one", "other"],
        "rest": ["one", "by"],
        "joined": ["one", "other"],
        "met": ["one", "other"],
        "rounded": ["one", "marks"],
    },
    "words": {
        "worth": ["expression", "held"],
        "holds": ["condition", "held"],
    },
    "running": {
        "ran": ["program", "numbers", "most"],
    },
    "knowing": {
        "reach": ["expression", "known"],
        "kept": ["condition", "known"],
        "contrary": ["condition"],
    },
    "looking": {
        "behind": ["program", "at", "known", "shelves"],
        "looked": ["program"],
        "index_told": ["program"],
        "ways_told": ["program"],
    },
}
# For each class that is more than an error: its arguments, its fields and its methods.
OBJECTS = {
    "Program": ("programs", ["shelves", "rows"], ["shelves", "rows", "names", "marks", "heads"], []),
    "Run": ("running", ["program", "numbers"], ["at", "held", "stock", "end"], ["step"]),
}


def defined(file_name, kind):
    """The names that the file's own statements define, in its top rows."""
    tree = ast.parse((FOLDER / (file_name + ".py")).read_text())
    return [node.name for node in tree.body if isinstance(node, kind)]


class InterfaceTest(unittest.TestCase):
    def test_classes_are_defined_in_their_file(self):
        for file_name, names in CLASSES.items():
            module = importlib.import_module("boundwatch." + file_name)
            for name in names:
                with self.subTest(file=file_name, name=name):
                    self.assertIn(name, defined(file_name, ast.ClassDef))
                    self.assertTrue(inspect.isclass(getattr(module, name)))

    def test_functions_are_defined_in_their_file_with_their_arguments(self):
        for file_name, functions in FUNCTIONS.items():
            module = importlib.import_module("boundwatch." + file_name)
            for name, arguments in functions.items():
                with self.subTest(file=file_name, name=name):
                    self.assertIn(name, defined(file_name, ast.FunctionDef))
                    told = inspect.signature(getattr(module, name)).parameters
                    self.assertEqual(list(told), arguments)

    def test_objects(self):
        from boundwatch.programs import Program
        from boundwatch.running import Run
        program = Program({"s": 3}, [("set", "a", 1)])
        made = {"Program": program, "Run": Run(program, [1, 2])}
        for name, (file_name, arguments, fields, methods) in OBJECTS.items():
            with self.subTest(name=name):
                kind = getattr(importlib.import_module("boundwatch." + file_name), name)
                self.assertEqual(list(inspect.signature(kind).parameters), arguments)
                for field in fields:
                    self.assertTrue(hasattr(made[name], field), field)
                for method in methods:
                    self.assertIn(method, vars(kind))
                    self.assertEqual(list(inspect.signature(getattr(made[name], method)).parameters), [])

    def test_arguments_by_keyword(self):
        from boundwatch.looking import behind
        from boundwatch.programs import Program
        from boundwatch.running import Run, ran
        program = Program(shelves={"s": 3}, rows=[("jump", 1)])
        self.assertEqual(Run(program=program, numbers=[]).at, 0)
        self.assertEqual(ran(program=program, numbers=[], most=1).end, "done")
        self.assertEqual(behind(program=program, at=0, known={}, shelves={}), [(1, {}, {})])

    def test_limit(self):
        from boundwatch.stretches import LIMIT
        self.assertEqual(LIMIT, 1000000)
        self.assertIs(type(LIMIT), int)


class LanguageTest(unittest.TestCase):
    """Those rules of the program's subset of Python that a few rows can check."""

    def files(self):
        return sorted(FOLDER.rglob("*.py"))

    def test_the_folder_holds_nothing_else(self):
        for path in FOLDER.rglob("*"):
            if path.is_file() and "__pycache__" not in path.parts:
                self.assertEqual(path.suffix, ".py", path)

    def test_sizes_and_characters(self):
        for path in self.files():
            text = path.read_text(encoding="utf-8")
            lines = text.split("\n")
            with self.subTest(file=path.name):
                self.assertLessEqual(len(lines), 399)
                self.assertLessEqual(max(len(line) for line in lines), 120)
                self.assertEqual([c for c in text if c != "\n" and not " " <= c <= "~"], [])

    def test_functions_are_short(self):
        for path in self.files():
            for node in ast.walk(ast.parse(path.read_text())):
                if isinstance(node, ast.FunctionDef):
                    with self.subTest(file=path.name, name=node.name):
                        self.assertLessEqual(node.end_lineno - node.lineno + 1, 40)

    def test_imports_come_from_the_package_alone(self):
        library = ("heapq", "math", "itertools", "collections", "__future__")
        for path in self.files():
            for node in ast.walk(ast.parse(path.read_text())):
                self.assertNotIsInstance(node, ast.Import, path)
                if isinstance(node, ast.ImportFrom) and node.module not in library:
                    self.assertTrue(node.module.startswith("boundwatch."), path)
