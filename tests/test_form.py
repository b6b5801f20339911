"""Point 4 and the plain form of the package's files: what they import, their characters, their sizes."""

import ast
import pathlib
import unittest

PACKAGE = pathlib.Path(__file__).resolve().parent.parent / "sealchart"
FILES = sorted(PACKAGE.rglob("*.py"))
LIBRARY = {"heapq", "math", "itertools", "collections"}
INTERFACE = {
    "errors": [
        "ChartError", "BadText", "BadDocument", "BadKey", "BadState", "DiskError", "DiskCrashed", "Refused", "BadAct",
    ],
    "texts": ["is_printable", "is_integer", "encode", "decode"],
}


def tree_of(path):
    return ast.parse(path.read_text(encoding="utf-8"))


class Form(unittest.TestCase):
    def test_there_are_files(self):
        self.assertIn(PACKAGE / "__init__.py", FILES)

    def test_a_file_imports_only_from_the_package_and_the_small_library(self):
        for path in FILES:
            for node in ast.walk(tree_of(path)):
                with self.subTest(path.name):
                    self.assertNotIsInstance(node, ast.Import)
                    if isinstance(node, ast.ImportFrom):
                        self.assertEqual(node.level, 0)
                        self.assertIn(node.module.split(".")[0], LIBRARY | {"sealchart"})

    def test_no_file_reaches_out(self):
        barred = {"open", "input", "print", "eval", "exec", "compile", "globals", "locals", "hash", "id"}
        for path in FILES:
            names = {node.id for node in ast.walk(tree_of(path)) if isinstance(node, ast.Name)}
            with self.subTest(path.name):
                self.assertEqual(names & barred, set())

    def test_the_characters_and_lines_of_a_file(self):
        for path in FILES:
            text = path.read_bytes().decode("ascii")
            lines = text.split("\n")
            with self.subTest(path.name):
                self.assertEqual([mark for mark in text if not " " <= mark <= "~" and mark != "\n"], [])
                self.assertLess(len(lines), 400)
                self.assertLessEqual(max(len(line) for line in lines), 120)

    def test_no_function_is_longer_than_forty_lines(self):
        for path in FILES:
            for node in ast.walk(tree_of(path)):
                if isinstance(node, ast.FunctionDef):
                    with self.subTest((path.name, node.name)):
                        self.assertLessEqual(node.end_lineno - node.lineno + 1, 40)

    def test_the_interface_is_defined_in_its_files(self):
        for name, words in INTERFACE.items():
            body = tree_of(PACKAGE / (name + ".py")).body
            defined = [node.name for node in body if isinstance(node, (ast.FunctionDef, ast.ClassDef))]
            for word in words:
                with self.subTest((name, word)):
                    self.assertIn(word, defined)


if __name__ == "__main__":
    unittest.main()
