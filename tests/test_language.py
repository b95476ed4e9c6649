"""Those rules of the Python subset that can be counted or looked up in the files."""

import ast
import pathlib
import re
import unittest

PACKAGE = pathlib.Path(__file__).resolve().parent.parent / "stripestack"
FILES = sorted(PACKAGE.rglob("*.py"))
LIBRARY = ("heapq", "math", "itertools", "collections")


def texts():
    return [(path, path.read_text(encoding="utf-8")) for path in FILES]


class LanguageTest(unittest.TestCase):
    def test_there_are_files_with_plain_names(self):
        self.assertIn(PACKAGE / "__init__.py", FILES)
        for path in FILES:
            self.assertTrue(re.fullmatch("[a-z0-9_]+[.]py", path.name), path)

    def test_lines_and_files_are_short(self):
        for path, text in texts():
            lines = text.split("\n")
            self.assertLessEqual(len(lines), 399, path)
            self.assertLessEqual(max([len(line) for line in lines]), 120, path)

    def test_characters_are_plain(self):
        for path, text in texts():
            self.assertEqual([c for c in text if c != "\n" and not " " <= c <= "~"], [], path)

    def test_functions_are_short(self):
        for path, text in texts():
            for node in ast.walk(ast.parse(text)):
                if isinstance(node, ast.FunctionDef):
                    self.assertLessEqual(node.end_lineno - node.lineno + 1, 40, (path, node.name))

    def test_no_string_has_the_sign_with_the_code_37(self):
        for path, text in texts():
            for node in ast.walk(ast.parse(text)):
                if isinstance(node, ast.Constant) and isinstance(node.value, str):
                    self.assertNotIn(chr(37), node.value, (path, node.lineno))

    def test_imports_are_of_the_package_or_the_library(self):
        for path, text in texts():
            for node in ast.walk(ast.parse(text)):
                self.assertNotIsInstance(node, (ast.Import, ast.Global, ast.AsyncFunctionDef), path)
                if isinstance(node, ast.ImportFrom):
                    self.assertEqual(node.level, 0, path)
                    self.assertIn(node.module.split(".")[0], ("stripestack",) + LIBRARY, path)


if __name__ == "__main__":
    unittest.main()
