"""The interface: its names, where they are defined, and their arguments."""

import ast
import builtins
import importlib
import inspect
import pathlib
import unittest

FOLDER = pathlib.Path(__file__).resolve().parent.parent / "closuremill"

FUNCTIONS = {
    "closuremill.trees": {"need_tree": ["tree"], "parts": ["tree"], "nodes": ["tree"], "free": ["tree"]},
    "closuremill.putting": {
        "put": ["tree", "name", "value"], "step": ["tree"], "worked": ["tree", "most"], "steps": ["tree", "most"],
    },
    "closuremill.machine": {"run": ["tree", "most"], "made": ["tree", "most"], "told": ["value"]},
    "closuremill.notes": {"shown": ["tree"], "read": ["line"]},
}
CLASSES = {
    "closuremill.errors": [
        "MillError", "NoTree", "NotClosed", "BadMost", "NoNumber", "NoFunction", "Dry", "NoText",
    ],
    "closuremill.machine": ["Kept"],
}
# All builtins that the package may call: none of them asks the clock, chance or a file.
BUILTINS = (
    "len range enumerate zip min max sum abs sorted reversed int str bool list tuple dict set isinstance ord repr any "
    "all divmod type"
).split(" ")


def defined(module, kind):
    """The names that a file itself defines by statements of one kind."""
    path = FOLDER / (module.split(".")[1] + ".py")
    rows = ast.parse(path.read_text(encoding="ascii")).body
    return [row.name for row in rows if isinstance(row, kind)]


class Interface(unittest.TestCase):
    def test_functions_and_their_arguments(self):
        for module, functions in FUNCTIONS.items():
            for name, wanted in functions.items():
                with self.subTest(module=module, name=name):
                    function = getattr(importlib.import_module(module), name)
                    self.assertEqual(list(inspect.signature(function).parameters), wanted)
                    self.assertIn(name, defined(module, ast.FunctionDef))

    def test_classes(self):
        for module, names in CLASSES.items():
            for name in names:
                with self.subTest(module=module, name=name):
                    self.assertTrue(inspect.isclass(getattr(importlib.import_module(module), name)))
                    self.assertIn(name, defined(module, ast.ClassDef))

    def test_a_kept_has_its_attributes_from_the_start(self):
        kept = importlib.import_module("closuremill.machine").made(("fun", "x", ("name", "x")), 0)[0]
        self.assertEqual((kept.name, kept.body, kept.names, kept.held), ("x", ("name", "x"), [], []))

    def test_files_import_from_the_package_alone(self):
        for path in FOLDER.glob("*.py"):
            for row in ast.walk(ast.parse(path.read_text(encoding="ascii"))):
                self.assertNotIsInstance(row, ast.Import, path)
                if isinstance(row, ast.ImportFrom):
                    self.assertEqual((row.level, row.module.split(".")[0]), (0, "closuremill"), path)
                    self.assertNotIn("*", [name.name for name in row.names], path)

    def test_files_call_no_builtin_that_looks_outside(self):
        for path in FOLDER.glob("*.py"):
            for part in ast.walk(ast.parse(path.read_text(encoding="ascii"))):
                if isinstance(part, ast.Name) and hasattr(builtins, part.id):
                    self.assertIn(part.id, BUILTINS + ["ValueError"], path)

    def test_the_folder_holds_nothing_but_plain_files_of_the_package(self):
        for path in FOLDER.rglob("*"):
            if "__pycache__" not in path.parts:
                self.assertEqual(path.suffix, ".py", path)

    def test_sizes_and_characters(self):
        for path in FOLDER.glob("*.py"):
            text = path.read_bytes().decode("ascii")
            rows = text.split("\n")
            self.assertLessEqual(len(rows), 399, path)
            for row in rows:
                self.assertLessEqual(len(row), 120, path)
                self.assertTrue(row == "" or row.isprintable(), path)
            for part in ast.walk(ast.parse(text)):
                if isinstance(part, ast.FunctionDef):
                    self.assertLessEqual(part.end_lineno - part.lineno + 1, 40, part.name)


if __name__ == "__main__":
    unittest.main()
