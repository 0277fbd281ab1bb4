"""Tests of what a file must keep to on its own: folder, size, characters,
imports, names, methods and values. The other rules of the language are
checked by reading."""

import ast
import builtins
import pathlib
import re
import unittest
import warnings

import probewright

PACKAGE = pathlib.Path(probewright.__file__).parent
FILES = sorted(path for path in PACKAGE.rglob("*") if "__pycache__" not in path.parts)
LIBRARY = ("heapq", "math", "itertools", "collections")

# What L8 allows of Python's own names outside of __main__.py.
BUILTINS = set(
    "len range enumerate zip min max sum abs sorted reversed int str bool bytes list tuple dict set frozenset "
    "isinstance ord repr any all divmod pow getattr hasattr setattr iter next map Exception ValueError TypeError "
    "KeyError IndexError LookupError ZeroDivisionError ArithmeticError OverflowError RuntimeError "
    "NotImplementedError AttributeError StopIteration NotImplemented property staticmethod classmethod super".split())

# What L25 allows of the methods of Python's own values.
METHODS = set(
    "append clear copy count endswith extend find get index insert isalnum isalpha isdigit islower isspace isupper "
    "items join keys ljust lower lstrip partition pop remove replace reverse rfind rjust rpartition rsplit rstrip "
    "setdefault split splitlines startswith strip update upper values zfill bit_length title capitalize swapcase "
    "casefold center expandtabs removeprefix removesuffix rindex isascii isdecimal isnumeric istitle isidentifier "
    "isprintable translate sort add discard".split())

# What L17 bars everywhere.
BARRED = set("register mro elements open input law version_info with_traceback add_note".split())


def tree_of(path):
    return ast.parse(path.read_text(encoding="utf-8"))


def is_call(node, names):
    """Tell whether a node calls one of some names."""
    return isinstance(node, ast.Call) and isinstance(node.func, ast.Name) and node.func.id in names


class Language(unittest.TestCase):
    def test_the_folder_holds_plain_files_only(self):
        self.assertIn(PACKAGE / "__init__.py", FILES)
        for path in FILES:
            with self.subTest(path=path.name):
                self.assertTrue(path.is_file())
                self.assertRegex(path.name, r"\A([a-z][a-z0-9_]*|__init__|__main__)\.py\Z")

    def test_size_and_characters(self):
        for path in FILES:
            text = path.read_bytes().decode("ascii")
            rows = text.split("\n")
            with self.subTest(path=path.name):
                self.assertIsNone(re.search(r"[^ -~\n]", text))
                self.assertTrue(text.endswith("\n"))
                self.assertLessEqual(len(rows) - 1, 399)
                self.assertLessEqual(max(len(row) for row in rows), 120)

    def test_functions_have_at_most_40_lines(self):
        for path in FILES:
            for node in ast.walk(tree_of(path)):
                if isinstance(node, ast.FunctionDef):
                    with self.subTest(path=path.name, function=node.name):
                        self.assertLessEqual(node.end_lineno - node.lineno + 1, 40)

    def test_imports(self):
        modules = {"probewright." + path.stem for path in FILES}
        for path in FILES:
            tree = tree_of(path)
            for node in ast.walk(tree):
                with self.subTest(path=path.name):
                    self.assertNotIsInstance(node, ast.Import)
                    if isinstance(node, ast.ImportFrom):
                        self.assertIn(node, tree.body)
                        self.assertEqual(node.level, 0)
                        self.assertIn(node.module, modules.union(LIBRARY))
                        self.assertNotIn("*", [alias.name for alias in node.names])

    def test_names(self):
        for path in FILES:
            for node in ast.walk(tree_of(path)):
                names = []
                if isinstance(node, ast.Name):
                    names.append(node.id)
                    if node.id in vars(builtins):
                        with self.subTest(path=path.name, name=node.id):
                            self.assertIn(node.id, BUILTINS)
                            self.assertIsInstance(node.ctx, ast.Load)
                elif isinstance(node, (ast.FunctionDef, ast.ClassDef)):
                    names.append(node.name)
                elif isinstance(node, ast.arg):
                    names.append(node.arg)
                    with self.subTest(path=path.name, name=node.arg):
                        self.assertNotIn(node.arg, vars(builtins))
                elif isinstance(node, ast.Attribute):
                    names.append(node.attr)
                elif isinstance(node, ast.keyword):
                    names.append(node.arg)
                with self.subTest(path=path.name, names=names):
                    self.assertFalse(BARRED.intersection(names))

    def test_methods(self):
        own = {
            node.name for path in FILES for kind in ast.walk(tree_of(path)) if isinstance(kind, ast.ClassDef)
            for node in kind.body if isinstance(node, ast.FunctionDef)
        }
        for path in FILES:
            for node in ast.walk(tree_of(path)):
                if isinstance(node, ast.Call) and isinstance(node.func, ast.Attribute):
                    with self.subTest(path=path.name, method=node.func.attr):
                        self.assertIn(node.func.attr, METHODS.union(own))

    def test_values_and_signs(self):
        for path in FILES:
            for node in ast.walk(tree_of(path)):
                with self.subTest(path=path.name, line=getattr(node, "lineno", 0)):
                    self.assertNotIsInstance(node, (ast.Div, ast.Global, ast.AsyncFunctionDef, ast.Await))
                    if isinstance(node, ast.Constant):
                        self.assertNotIsInstance(node.value, (float, complex))
                        if isinstance(node.value, str):
                            self.assertNotIn("%", node.value)

    def test_what_the_package_does_without(self):
        # Most of the rules are about these; none of them is used.
        unused = (ast.GeneratorExp, ast.Yield, ast.YieldFrom, ast.With, ast.Match, ast.NamedExpr, ast.AnnAssign,
                  ast.Assert, ast.Delete, ast.Nonlocal)
        for path in FILES:
            for node in ast.walk(tree_of(path)):
                with self.subTest(path=path.name, line=getattr(node, "lineno", 0)):
                    self.assertNotIsInstance(node, unused)
                    if isinstance(node, (ast.FunctionDef, ast.ClassDef)):
                        self.assertEqual(node.decorator_list, [])
                    if isinstance(node, ast.FunctionDef):
                        rest = node.args
                        self.assertEqual(
                            (rest.vararg, rest.kwarg, rest.kwonlyargs, rest.posonlyargs, rest.defaults),
                            (None, None, [], [], []))
                        if node.name.startswith("__"):
                            self.assertEqual(node.name, "__init__")
                            self.assertFalse(any(isinstance(part, ast.Return) for part in ast.walk(node)))
                    if isinstance(node, ast.Try):
                        self.assertEqual(node.finalbody, [])
                        for handler in node.handlers:
                            # Own errors only.
                            self.assertNotIn(handler.type.id, vars(builtins))

    def test_what_is_iterated_at_once(self):
        names = ("zip", "enumerate", "reversed", "range")
        takers = ("list", "tuple", "dict", "sorted", "sum", "any", "all", "enumerate", "zip", "min", "max", "combinations")
        for path in FILES:
            tree = tree_of(path)
            allowed = set()
            for node in ast.walk(tree):
                if isinstance(node, (ast.For, ast.comprehension)):
                    allowed.add(node.iter)
                if isinstance(node, ast.Call) and isinstance(node.func, ast.Name) and node.args:
                    if node.func.id in takers or node.func.id in ("reversed", "len") and is_call(node.args[0], ("range",)):
                        allowed.add(node.args[0])
            for node in ast.walk(tree):
                views = isinstance(node, ast.Call) and isinstance(node.func, ast.Attribute) \
                    and node.func.attr in ("items", "keys", "values")
                if is_call(node, names) or views:
                    with self.subTest(path=path.name, line=node.lineno):
                        self.assertIn(node, allowed)

    def test_sets(self):
        for path in FILES:
            tree = tree_of(path)
            allowed = set()
            for node in ast.walk(tree):
                if is_call(node, ("sorted", "len")) and not node.keywords:
                    allowed.add(node.args[0])
                if isinstance(node, ast.Assign) and isinstance(node.targets[0], ast.Name):
                    allowed.add(node.value)
            for node in ast.walk(tree):
                if is_call(node, ("set",)) or isinstance(node, (ast.Set, ast.SetComp)):
                    with self.subTest(path=path.name, line=node.lineno):
                        self.assertIn(node, allowed)

    def test_lambdas_stand_on_lines_of_their_own(self):
        for path in FILES:
            lines = [node.lineno for node in ast.walk(tree_of(path)) if isinstance(node, ast.Lambda)]
            self.assertEqual(len(lines), len(set(lines)))

    def test_no_name_is_a_method_and_an_attribute(self):
        methods, attributes = set(), set()
        for path in FILES:
            for kind in ast.walk(tree_of(path)):
                if isinstance(kind, ast.ClassDef):
                    methods.update(node.name for node in kind.body if isinstance(node, ast.FunctionDef))
                if isinstance(kind, ast.Attribute) and isinstance(kind.ctx, ast.Store):
                    attributes.add(kind.attr)
        self.assertEqual(methods & attributes, set())
        # What a stored set is asked to do is no method of a class.
        self.assertEqual(methods & {"add", "discard", "sort"}, set())
        for name in attributes:
            for value in ("", 0, [], {}, set(), b""):
                self.assertFalse(hasattr(value, name) and name not in ("count", "index"), name)

    def test_no_two_files_import_from_each_other(self):
        imported = {
            "probewright." + path.stem: [
                node.module for node in tree_of(path).body
                if isinstance(node, ast.ImportFrom) and node.module.startswith("probewright.")]
            for path in FILES}
        left = dict(imported)
        while left:
            free = [name for name in left if not any(other in left for other in left[name])]
            self.assertTrue(free, left)
            for name in free:
                del left[name]

    def test_imports_name_the_file_that_defines(self):
        defined = {
            "probewright." + path.stem: {
                node.name for node in tree_of(path).body if isinstance(node, (ast.FunctionDef, ast.ClassDef))}
            | {target.id for node in tree_of(path).body if isinstance(node, ast.Assign) for target in node.targets}
            for path in FILES}
        for path in FILES:
            tree = tree_of(path)
            bound = set()
            for node in tree.body:
                if isinstance(node, ast.ImportFrom):
                    bound.update(alias.name for alias in node.names)
                    if node.module in defined:
                        for alias in node.names:
                            self.assertIn(alias.name, defined[node.module])
            bound.update(node.name for node in tree.body if isinstance(node, ast.ClassDef))
            for node in ast.walk(tree):
                names = []
                if isinstance(node, ast.Name) and isinstance(node.ctx, ast.Store):
                    names.append(node.id)
                if isinstance(node, ast.arg):
                    names.append(node.arg)
                for name in names:
                    with self.subTest(path=path.name, name=name):
                        self.assertNotIn(name, bound)

    def test_python_gives_no_warning(self):
        for path in FILES:
            with self.subTest(path=path.name), warnings.catch_warnings():
                warnings.simplefilter("error")
                compile(path.read_text(encoding="utf-8"), str(path), "exec")

    def test_no_two_names_at_module_level_are_the_same(self):
        for path in FILES:
            bound = []
            for node in tree_of(path).body:
                if isinstance(node, (ast.FunctionDef, ast.ClassDef)):
                    bound.append(node.name)
                elif isinstance(node, ast.ImportFrom):
                    bound.extend(alias.asname or alias.name for alias in node.names)
                elif isinstance(node, ast.Assign):
                    bound.extend(target.id for target in node.targets)
            with self.subTest(path=path.name):
                self.assertEqual(len(bound), len(set(bound)))


if __name__ == "__main__":
    unittest.main()
