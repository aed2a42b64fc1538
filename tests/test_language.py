"""The rules of the language that can be measured file by file."""

import ast
import pathlib
import unittest
import warnings

PACKAGE = pathlib.Path(__file__).resolve().parent.parent / "oncefolded"
LIBRARY = ("heapq", "math", "itertools", "collections", "__future__")


def own_files():
    return sorted(path for path in PACKAGE.rglob("*") if path.is_file() and path.parent.name != "__pycache__")


def sources():
    return [(path, path.read_text(encoding="utf-8")) for path in own_files()]


class LanguageTest(unittest.TestCase):
    def test_the_folder_holds_python_files_only(self):
        self.assertIn(PACKAGE / "__init__.py", own_files())
        for path in own_files():
            self.assertRegex(path.name, "^[a-z0-9_]+[.]py$")

    def test_characters_and_sizes(self):
        for path, text in sources():
            self.assertTrue(all(" " <= sign <= "~" or sign == "\n" for sign in text), path)
            lines = text.split("\n")
            self.assertLessEqual(len(lines), 399, path)
            self.assertLessEqual(max(map(len, lines)), 120, path)

    def test_functions_are_short(self):
        for path, text in sources():
            for node in ast.walk(ast.parse(text)):
                if isinstance(node, ast.FunctionDef):
                    self.assertLessEqual(node.end_lineno - node.lineno + 1, 40, (path, node.name))

    def test_imports(self):
        for path, text in sources():
            for node in ast.walk(ast.parse(text)):
                self.assertFalse(isinstance(node, ast.Import) and path.name != "__main__.py", path)
                if isinstance(node, ast.ImportFrom):
                    self.assertEqual(node.level, 0, path)
                    self.assertIn(node.module.split(".")[0], LIBRARY + (PACKAGE.name,), path)

    def test_no_warnings(self):
        for path, text in sources():
            with warnings.catch_warnings():
                warnings.simplefilter("error")
                compile(text, str(path), "exec")


if __name__ == "__main__":
    unittest.main()
