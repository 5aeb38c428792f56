"""The form of the package's files, as far as it is easily seen: files, characters, sizes, imports."""

import ast
import unittest
from pathlib import Path

PACKAGE = Path(__file__).resolve().parent.parent / "keyedtime"
FILES = sorted(PACKAGE.rglob("*.py"))


class FormTest(unittest.TestCase):
    def test_nothing_but_python_files(self):
        for path in PACKAGE.rglob("*"):
            if "__pycache__" not in path.parts:
                self.assertTrue(path.is_dir() or path.suffix == ".py", path)
        self.assertIn(PACKAGE / "__init__.py", FILES)

    def test_characters_and_lines(self):
        for path in FILES:
            text = path.read_bytes().decode("utf-8")
            self.assertTrue(all(" " <= sign <= "~" or sign == "\n" for sign in text), path)
            lines = text.split("\n")
            self.assertLessEqual(len(lines), 399, path)
            self.assertLessEqual(max(len(line) for line in lines), 120, path)

    def test_functions(self):
        for path in FILES:
            for node in ast.walk(ast.parse(path.read_text())):
                if isinstance(node, ast.FunctionDef):
                    self.assertLessEqual(node.end_lineno - node.lineno + 1, 40, (path, node.name))

    def test_imports(self):
        for path in FILES:
            for node in ast.walk(ast.parse(path.read_text())):
                self.assertNotIsInstance(node, ast.Import, path)
                if isinstance(node, ast.ImportFrom):
                    outside = ("heapq", "math", "itertools", "collections")
                    self.assertTrue(node.module.startswith("keyedtime.") or node.module in outside, path)


if __name__ == "__main__":
    unittest.main()
