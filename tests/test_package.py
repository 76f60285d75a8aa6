"""The interface's names and arguments, and that nothing draws on a clock, chance or files (point 1)."""

import ast
import importlib
import inspect
import unittest
from pathlib import Path

PACKAGE = Path(__file__).resolve().parent.parent / "lampwish"

ARGUMENTS = {
    "wishes": {
        "met": ["wish", "setting"],
        "merged": ["one", "two", "lamp"],
        "still_open": ["wish", "letters"],
    },
    "forcing": {
        "broken": ["wishes", "trail"],
        "forced": ["wishes", "trail"],
        "first_free": ["count", "trail"],
    },
    "showing": {
        "shows": ["wishes", "steps"],
        "trimmed": ["wishes", "steps"],
    },
    "solving": {
        "gone_back": ["wishes", "trail", "number"],
        "solved": ["count", "wishes"],
        "all_settings": ["count", "wishes"],
        "follows": ["count", "wishes", "wish"],
        "sure": ["count", "wishes"],
    },
    "statements": {
        "true_in": ["statement", "setting"],
        "sheet_of": ["count", "statement"],
        "weighed": ["count", "statement"],
    },
}

FROM_OUTSIDE = ("open", "input", "print", "eval", "exec", "compile", "globals", "breakpoint", "id", "hash")


def trees():
    return [(path.name, ast.parse(path.read_text(encoding="ascii"))) for path in sorted(PACKAGE.glob("*.py"))]


class Package(unittest.TestCase):
    def test_names_and_arguments(self):
        for module, functions in ARGUMENTS.items():
            held = importlib.import_module("lampwish." + module)
            for name, arguments in functions.items():
                self.assertEqual(list(inspect.signature(getattr(held, name)).parameters), arguments)

    def test_only_its_own_modules_are_imported(self):
        for name, tree in trees():
            for node in ast.walk(tree):
                self.assertNotIsInstance(node, ast.Import, name)
                if isinstance(node, ast.ImportFrom):
                    self.assertEqual(node.level, 0, name)
                    self.assertTrue(node.module.startswith("lampwish."), name)

    def test_no_name_that_reaches_outside(self):
        for name, tree in trees():
            used = [node.id for node in ast.walk(tree) if isinstance(node, ast.Name)]
            self.assertEqual([word for word in used if word in FROM_OUTSIDE or word.startswith("__")], [], name)
