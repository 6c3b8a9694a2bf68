"""The plain outer rules for the files of the package: characters, sizes, imports, names."""

import ast
import pathlib
import unittest

ROOT = pathlib.Path(__file__).resolve().parent.parent
PACKAGE = ROOT / "slackrods"
LIBRARY = ("heapq", "math", "itertools", "collections")


def sources():
    return sorted(PACKAGE.rglob("*.py"))


class PackageTest(unittest.TestCase):
    def test_only_plain_files(self):
        for path in PACKAGE.rglob("*"):
            if path.is_file() and "__pycache__" not in path.parts:
                with self.subTest(path=path):
                    self.assertRegex(path.name, r"^[a-z0-9_]+\.py$")

    def test_characters_and_sizes(self):
        for path in sources():
            lines = path.read_bytes().decode("ascii").split("\n")
            with self.subTest(path=path):
                self.assertLessEqual(len(lines), 399)
                self.assertLessEqual(max(map(len, lines)), 120)
                self.assertRegex("".join(lines), "^[ -~]*$")

    def test_size_of_functions(self):
        for path in sources():
            for node in ast.walk(ast.parse(path.read_text())):
                if isinstance(node, ast.FunctionDef):
                    with self.subTest(path=path, name=node.name):
                        self.assertLessEqual(node.end_lineno - node.lineno + 1, 40)

    def test_imports(self):
        for path in sources():
            tree = ast.parse(path.read_text())
            for node in ast.walk(tree):
                self.assertNotIsInstance(node, ast.Import)
                if isinstance(node, ast.ImportFrom):
                    with self.subTest(path=path, module=node.module):
                        self.assertIn(node, tree.body)
                        self.assertEqual(node.level, 0)
                        self.assertTrue(node.module in LIBRARY or node.module.startswith("slackrods."))

    def test_no_floats_no_division(self):
        for path in sources():
            for node in ast.walk(ast.parse(path.read_text())):
                with self.subTest(path=path):
                    self.assertNotIsInstance(node, ast.Div)
                    self.assertFalse(isinstance(node, ast.Constant) and isinstance(node.value, float))


if __name__ == "__main__":
    unittest.main()
