"""Tests of what a file must keep to on its own: folder, size, characters,
imports and names. The other rules of the language are checked by reading."""

import ast
import pathlib
import re
import unittest
import warnings

import probewright

PACKAGE = pathlib.Path(probewright.__file__).parent
FILES = sorted(path for path in PACKAGE.rglob("*") if "__pycache__" not in path.parts)
LIBRARY = ("heapq", "math", "itertools", "collections")


def tree_of(path):
    return ast.parse(path.read_text(encoding="utf-8"))


class Language(unittest.TestCase):
    def test_the_folder_holds_plain_files_only(self):
        self.assertIn(PACKAGE / "__init__.py", FILES)
        for path in FILES:
            with self.subTest(path=path.name):
                self.assertTrue(path.is_file())
                self.assertRegex(path.name, r"\A([a-z][a-z0-9_]*|__init__|__main__)\.py\Z")

    def test_size_and_characters(self):
        for path in FILES:
            text = path.read_bytes().decode("ascii")
            rows = text.split("\n")
            with self.subTest(path=path.name):
                self.assertIsNone(re.search(r"[^ -~\n]", text))
                self.assertTrue(text.endswith("\n"))
                self.assertLessEqual(len(rows) - 1, 399)
                self.assertLessEqual(max(len(row) for row in rows), 120)

    def test_functions_have_at_most_40_lines(self):
        for path in FILES:
            for node in ast.walk(tree_of(path)):
                if isinstance(node, ast.FunctionDef):
                    with self.subTest(path=path.name, function=node.name):
                        self.assertLessEqual(node.end_lineno - node.lineno + 1, 40)

    def test_imports(self):
        modules = {"probewright." + path.stem for path in FILES}
        for path in FILES:
            tree = tree_of(path)
            for node in ast.walk(tree):
                with self.subTest(path=path.name):
                    self.assertNotIsInstance(node, ast.Import)
                    if isinstance(node, ast.ImportFrom):
                        self.assertIn(node, tree.body)
                        self.assertEqual(node.level, 0)
                        self.assertIn(node.module, modules.union(LIBRARY))
                        self.assertNotIn("*", [alias.name for alias in node.names])

    def test_python_gives_no_warning(self):
        for path in FILES:
            with self.subTest(path=path.name), warnings.catch_warnings():
                warnings.simplefilter("error")
                compile(path.read_text(encoding="utf-8"), str(path), "exec")

    def test_no_two_names_at_module_level_are_the_same(self):
        for path in FILES:
            bound = []
            for node in tree_of(path).body:
                if isinstance(node, (ast.FunctionDef, ast.ClassDef)):
                    bound.append(node.name)
                elif isinstance(node, ast.ImportFrom):
                    bound.extend(alias.asname or alias.name for alias in node.names)
                elif isinstance(node, ast.Assign):
                    bound.extend(target.id for target in node.targets)
            with self.subTest(path=path.name):
                self.assertEqual(len(bound), len(set(bound)))


if __name__ == "__main__":
    unittest.main()
