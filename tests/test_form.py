"""The form of the package's files, as far as it can be read off them simply."""

import ast
import unittest
from pathlib import Path

PACKAGE = Path(__file__).resolve().parent.parent / "folklist"
FILES = sorted(path for path in PACKAGE.iterdir() if path.name != "__pycache__")
STATED = {
    "errors.py": ["FolkError", "BadHand", "BadList", "NoLetter", "Fallen", "Outside", "NotFirst",
                  "NoNews"],
    "lists.py": ["enough", "is_list", "longest"],
    "folk.py": ["Folk"],
}


class FormTest(unittest.TestCase):
    def test_only_python_files(self):
        self.assertTrue((PACKAGE / "__init__.py").is_file())
        for path in FILES:
            self.assertTrue(path.is_file(), path)
            self.assertRegex(path.name, r"^[a-z_][a-z0-9_]*\.py$")

    def test_signs_lines_and_lengths(self):
        for path in FILES:
            text = path.read_bytes().decode("ascii")
            self.assertNotIn("\t", text)
            self.assertNotIn("\r", text)
            self.assertLessEqual(len(text.splitlines()), 399, path)
            for line in text.splitlines():
                self.assertLessEqual(len(line), 120, path)

    def test_functions_are_short_and_imports_stay_inside(self):
        for path in FILES:
            for node in ast.walk(ast.parse(path.read_text("ascii"))):
                if isinstance(node, ast.FunctionDef):
                    self.assertLessEqual(node.end_lineno - node.lineno + 1, 40, node.name)
                    self.assertEqual(node.decorator_list, [])
                self.assertNotIsInstance(node, ast.Import)
                if isinstance(node, ast.ImportFrom):
                    self.assertEqual(node.level, 0)
                    self.assertTrue(node.module.startswith("folklist."), node.module)

    def test_the_interface_is_defined_where_it_is_listed(self):
        for name, stated in STATED.items():
            tree = ast.parse((PACKAGE / name).read_text("ascii"))
            defined = [node.name for node in tree.body
                       if isinstance(node, (ast.FunctionDef, ast.ClassDef))]
            for word in stated:
                self.assertIn(word, defined)


if __name__ == "__main__":
    unittest.main()
