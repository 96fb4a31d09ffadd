"""The outer form of the package's files, as the language document asks for it (L1, L10, L14)."""

import ast
import pathlib
import unittest

PACKAGE = pathlib.Path(__file__).resolve().parent.parent / "topletter"


class Layout(unittest.TestCase):
    def setUp(self):
        self.texts = {path.name: path.read_text("utf-8") for path in PACKAGE.glob("*.py")}

    def test_the_folder_contains_only_python_files(self):
        names = {path.name for path in PACKAGE.iterdir() if path.name != "__pycache__"}
        self.assertEqual(names, set(self.texts))
        self.assertIn("__init__.py", names)

    def test_characters_and_sizes(self):
        for name, text in self.texts.items():
            with self.subTest(name=name):
                self.assertEqual([mark for mark in text if mark != "\n" and not " " <= mark <= "~"], [])
                self.assertLessEqual(len(text.splitlines()), 399)
                self.assertLessEqual(max(len(line) for line in text.splitlines()), 120)

    def test_functions_have_at_most_40_lines(self):
        for name, text in self.texts.items():
            for node in ast.walk(ast.parse(text)):
                if isinstance(node, ast.FunctionDef):
                    with self.subTest(name=name, function=node.name):
                        self.assertLessEqual(node.end_lineno - node.lineno + 1, 40)


if __name__ == "__main__":
    unittest.main()
