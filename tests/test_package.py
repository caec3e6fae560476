"""What ../shared/LANGUAGE.md asks of all files of the package, as far as it is told by a plain look."""

import ast
import importlib
import inspect
import unittest
from pathlib import Path

from skypairs.skies import Sky

PACKAGE = Path(__file__).resolve().parent.parent / "skypairs"

INTERFACE = {
    "pairing": (
        ("pairing", "(one, other, rule, *, slip=(0, 0))"),
        ("settles", "(one, other, rule, pairs, prices, *, slip=(0, 0))"),
        ("sure", "(one, other, rule, *, slip=(0, 0))"),
        ("likely", "(one, other, rule, *, slip=(0, 0))"),
    ),
    "finding": (
        ("turned", "(lights, turn)"),
        ("sought", "(one, other, rule, *, far=2, turns=(0,))"),
    ),
    "tracks": (
        ("tracks", "(epochs, *, least=3, dim=99)"),
        ("chosen", "(epochs, *, least=3, dim=99)"),
    ),
    "blends": (
        ("groups", "(lights, near)"),
        ("blends", "(lights, near)"),
        ("matched", "(coarse, fine, near, rule)"),
    ),
    "skies": (
        ("Sky", "(one, other, rule)"),
    ),
    "notes": (
        ("written", "(lists)"),
        ("read", "(text)"),
    ),
}

SKY_METHODS = (
    ("lights", "(self)"),
    ("pairs", "(self)"),
    ("put", "(self, side, light)"),
    ("drop", "(self, side, name)"),
    ("move", "(self, side, name, light)"),
    ("batch", "(self, deeds, *, keep=True)"),
    ("told", "(self)"),
    ("is_idle", "(self)"),
)


def texts():
    return [(path.name, path.read_text(encoding="utf-8")) for path in sorted(PACKAGE.rglob("*.py"))]


class Package(unittest.TestCase):
    def test_only_python_files(self):
        found = [path for path in PACKAGE.rglob("*") if "__pycache__" not in path.parts]
        self.assertEqual([path for path in found if path.suffix != ".py"], [])
        self.assertTrue(found)

    def test_interface_stands_where_it_is_listed(self):
        for file, functions in INTERFACE.items():
            module = importlib.import_module(f"skypairs.{file}")
            for name, signature in functions:
                function = getattr(module, name)
                self.assertEqual(function.__module__, module.__name__)
                self.assertEqual(str(inspect.signature(function)), signature)

    def test_methods_stand_in_the_class_itself(self):
        for name, signature in SKY_METHODS:
            self.assertEqual(str(inspect.signature(vars(Sky)[name])), signature)

    def test_size_and_characters(self):
        for name, text in texts():
            lines = text.split("\n")
            self.assertLess(len(lines), 400, name)
            for line in lines:
                self.assertLessEqual(len(line), 120, name)
                self.assertTrue(all(" " <= sign <= "~" for sign in line), (name, line))
            for node in ast.walk(ast.parse(text)):
                if isinstance(node, ast.FunctionDef):
                    self.assertLessEqual(node.end_lineno - node.lineno + 1, 40, (name, node.name))

    def test_imports_are_of_the_package(self):
        for name, text in texts():
            for node in ast.walk(ast.parse(text)):
                self.assertNotIsInstance(node, ast.Import, name)
                if isinstance(node, ast.ImportFrom):
                    self.assertTrue(node.module.startswith("skypairs."), (name, node.module))

    def test_whole_numbers_only(self):
        for name, text in texts():
            for node in ast.walk(ast.parse(text)):
                self.assertNotIsInstance(node, ast.Div, name)
                if isinstance(node, ast.Constant):
                    self.assertNotIsInstance(node.value, (float, complex), name)


if __name__ == "__main__":
    unittest.main()
