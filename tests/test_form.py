"""The package's own files: what of their form can be seen by a short look."""

import ast
import pathlib
import re
import unittest

PACKAGE = pathlib.Path(__file__).resolve().parent.parent / "coinrow"
OUTSIDE = {"print", "open", "input", "eval", "exec", "compile", "getattr", "setattr", "globals", "vars"}


def sources():
    return {path.name: path.read_text(encoding="utf-8") for path in sorted(PACKAGE.glob("*.py"))}


class Form(unittest.TestCase):
    def test_nothing_else_lies_in_the_package(self):
        others = [path.name for path in PACKAGE.iterdir()
                  if path.suffix != ".py" and path.name != "__pycache__"]
        self.assertEqual(others, [])
        self.assertIn("__init__.py", sources())

    def test_imports_are_the_packages_own(self):
        for name, text in sources().items():
            for node in ast.walk(ast.parse(text)):
                self.assertNotIsInstance(node, ast.Import, name)
                if isinstance(node, ast.ImportFrom):
                    self.assertEqual(node.level, 0, name)
                    self.assertEqual(node.module.split(".")[0], "coinrow", name)

    def test_nothing_reaches_outside(self):
        for name, text in sources().items():
            used = {node.id for node in ast.walk(ast.parse(text)) if isinstance(node, ast.Name)}
            self.assertEqual(used & OUTSIDE, set(), name)

    def test_size(self):
        for name, text in sources().items():
            self.assertLessEqual(text.count("\n"), 400, name)
            for line in text.split("\n"):
                self.assertLessEqual(len(line), 120, name)
            for node in ast.walk(ast.parse(text)):
                if isinstance(node, ast.FunctionDef):
                    self.assertLessEqual(node.end_lineno - node.lineno + 1, 40, (name, node.name))

    def test_signs(self):
        for name, text in sources().items():
            self.assertIsNone(re.search(r"[^ -~\n]", text), name)


if __name__ == "__main__":
    unittest.main()
