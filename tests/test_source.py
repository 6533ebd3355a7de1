"""The files of the package: their sizes and characters, and that nothing else stands among them."""

import ast
import os
import unittest

import twolistings

FOLDER = os.path.dirname(os.path.abspath(twolistings.__file__))
ALLOWED_IMPORTS = ("twolistings.", "heapq", "math", "itertools", "collections")


def sources():
    """Each file of the package with its text; what Python itself keeps there does not count."""
    for folder, folders, files in os.walk(FOLDER):
        folders[:] = [name for name in folders if name != "__pycache__"]
        for name in files:
            path = os.path.join(folder, name)
            with open(path, encoding="utf-8") as file:
                yield os.path.relpath(path, FOLDER), file.read()


class Source(unittest.TestCase):
    def test_there_are_only_python_files(self):
        names = [name for name, _ in sources()]
        self.assertIn("__init__.py", names)
        self.assertEqual([name for name in names if not name.endswith(".py")], [])

    def test_characters(self):
        for name, text in sources():
            wrong = [letter for letter in text if letter != "\n" and not " " <= letter <= "~"]
            self.assertEqual(wrong, [], name)

    def test_lines(self):
        for name, text in sources():
            lines = text.split("\n")
            self.assertLessEqual(len(lines), 399, name)
            self.assertEqual([line for line in lines if len(line) > 120], [], name)

    def test_functions(self):
        for name, text in sources():
            for node in ast.walk(ast.parse(text)):
                if isinstance(node, ast.FunctionDef):
                    self.assertLessEqual(node.end_lineno - node.lineno + 1, 40, (name, node.name))

    def test_imports(self):
        for name, text in sources():
            for node in ast.walk(ast.parse(text)):
                self.assertNotIsInstance(node, ast.Import, name)
                if isinstance(node, ast.ImportFrom):
                    self.assertTrue(node.level == 0 and node.module.startswith(ALLOWED_IMPORTS), (name, node.module))


if __name__ == "__main__":
    unittest.main()
