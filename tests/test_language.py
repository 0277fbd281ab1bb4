"""Tests of what a file must keep to on its own: folder, size, characters,
imports, names, methods and values. The other rules of the language are
checked by reading."""

import ast
import builtins
import pathlib
import re
import unittest
import warnings

import probewright

PACKAGE = pathlib.Path(probewright.__file__).parent
FILES = sorted(path for path in PACKAGE.rglob("*") if "__pycache__" not in path.parts)
LIBRARY = ("heapq", "math", "itertools", "collections")

# What L8 allows of Python's own names outside of __main__.py.
BUILTINS = set(
    "len range enumerate zip min max sum abs sorted reversed int str bool bytes list tuple dict set frozenset "
    "isinstance ord repr any all divmod pow getattr hasattr setattr iter next map Exception ValueError TypeError "
    "KeyError IndexError LookupError ZeroDivisionError ArithmeticError OverflowError RuntimeError "
    "NotImplementedError AttributeError StopIteration NotImplemented property staticmethod classmethod super".split())

# What L25 allows of the methods of Python's own values.
METHODS = set(
    "append clear copy count endswith extend find get index insert isalnum isalpha isdigit islower isspace isupper "
    "items join keys ljust lower lstrip partition pop remove replace reverse rfind rjust rpartition rsplit rstrip "
    "setdefault split splitlines startswith strip update upper values zfill bit_length title capitalize swapcase "
    "casefold center expandtabs removeprefix removesuffix rindex isascii isdecimal isnumeric istitle isidentifier "
    "isprintable translate sort add discard".split())

# What L17 bars everywhere.
BARRED = set("register mro elements open input law version_info with_traceback add_note".split())


def tree_of(path):
    return ast.parse(path.read_text(encoding="utf-8"))


class Language(unittest.TestCase):
    def test_the_folder_holds_plain_files_only(self):
        self.assertIn(PACKAGE / "__init__.py", FILES)
        for path in FILES:
            with self.subTest(path=path.name):
                self.assertTrue(path.is_file())
                self.assertRegex(path.name, r"\A([a-z][a-z0-9_]*|__init__|__main__)\.py\Z")

    def test_size_and_characters(self):
        for path in FILES:
            text = path.read_bytes().decode("ascii")
            rows = text.split("\n")
            with self.subTest(path=path.name):
                self.assertIsNone(re.search(r"[^ -~\n]", text))
                self.assertTrue(text.endswith("\n"))
                self.assertLessEqual(len(rows) - 1, 399)
                self.assertLessEqual(max(len(row) for row in rows), 120)

    def test_functions_have_at_most_40_lines(self):
        for path in FILES:
            for node in ast.walk(tree_of(path)):
                if isinstance(node, ast.FunctionDef):
                    with self.subTest(path=path.name, function=node.name):
                        self.assertLessEqual(node.end_lineno - node.lineno + 1, 40)

    def test_imports(self):
        modules = {"probewright." + path.stem for path in FILES}
        for path in FILES:
            tree = tree_of(path)
            for node in ast.walk(tree):
                with self.subTest(path=path.name):
                    self.assertNotIsInstance(node, ast.Import)
                    if isinstance(node, ast.ImportFrom):
                        self.assertIn(node, tree.body)
                        self.assertEqual(node.level, 0)
                        self.assertIn(node.module, modules.union(LIBRARY))
                        self.assertNotIn("*", [alias.name for alias in node.names])

    def test_names(self):
        for path in FILES:
            for node in ast.walk(tree_of(path)):
                names = []
                if isinstance(node, ast.Name):
                    names.append(node.id)
                    if node.id in vars(builtins):
                        with self.subTest(path=path.name, name=node.id):
                            self.assertIn(node.id, BUILTINS)
                            self.assertIsInstance(node.ctx, ast.Load)
                elif isinstance(node, (ast.FunctionDef, ast.ClassDef)):
                    names.append(node.name)
                elif isinstance(node, ast.arg):
                    names.append(node.arg)
                    with self.subTest(path=path.name, name=node.arg):
                        self.assertNotIn(node.arg, vars(builtins))
                elif isinstance(node, ast.Attribute):
                    names.append(node.attr)
                elif isinstance(node, ast.keyword):
                    names.append(node.arg)
                with self.subTest(path=path.name, names=names):
                    self.assertFalse(BARRED.intersection(names))

    def test_methods(self):
        own = {
            node.name for path in FILES for kind in ast.walk(tree_of(path)) if isinstance(kind, ast.ClassDef)
            for node in kind.body if isinstance(node, ast.FunctionDef)
        }
        for path in FILES:
            for node in ast.walk(tree_of(path)):
                if isinstance(node, ast.Call) and isinstance(node.func, ast.Attribute):
                    with self.subTest(path=path.name, method=node.func.attr):
                        self.assertIn(node.func.attr, METHODS.union(own))

    def test_values_and_signs(self):
        for path in FILES:
            for node in ast.walk(tree_of(path)):
                with self.subTest(path=path.name, line=getattr(node, "lineno", 0)):
                    self.assertNotIsInstance(node, (ast.Div, ast.Global, ast.AsyncFunctionDef, ast.Await))
                    if isinstance(node, ast.Constant):
                        self.assertNotIsInstance(node.value, (float, complex))
                        if isinstance(node.value, str):
                            self.assertNotIn("%", node.value)

    def test_python_gives_no_warning(self):
        for path in FILES:
            with self.subTest(path=path.name), warnings.catch_warnings():
                warnings.simplefilter("error")
                compile(path.read_text(encoding="utf-8"), str(path), "exec")

    def test_no_two_names_at_module_level_are_the_same(self):
        for path in FILES:
            bound = []
            for node in tree_of(path).body:
                if isinstance(node, (ast.FunctionDef, ast.ClassDef)):
                    bound.append(node.name)
                elif isinstance(node, ast.ImportFrom):
                    bound.extend(alias.asname or alias.name for alias in node.names)
                elif isinstance(node, ast.Assign):
                    bound.extend(target.id for target in node.targets)
            with self.subTest(path=path.name):
                self.assertEqual(len(bound), len(set(bound)))


if __name__ == "__main__":
    unittest.main()
