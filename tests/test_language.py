"""Tests of the simpler rules of LANGUAGE.md, for all files of the package."""

import ast
import builtins
import re
import unittest
from pathlib import Path

PACKAGE = Path(__file__).resolve().parent.parent / "tiltheap"
FILES = sorted(path for path in PACKAGE.rglob("*.py"))
LIBRARY = ("heapq", "math", "itertools", "collections")
BARRED_WORDS = ("type", "typing", "enum", "dataclass", "overload", "contextmanager", "namedtuple")
BUILTINS = (
    "len range enumerate zip min max sum abs sorted reversed int str bool bytes list tuple dict set isinstance ord repr "
    "any all divmod super property classmethod staticmethod ValueError TypeError KeyError NotImplemented"
).split()
METHODS = (
    "append clear copy count endswith extend find get index insert items join keys ljust lower lstrip pop remove "
    "replace reverse rjust setdefault split startswith strip update upper values zfill add discard __init__"
).split()
OTHER_NODES = (ast.Global, ast.AsyncFunctionDef, ast.AsyncFor, ast.AsyncWith, ast.Await, ast.Div)


def trees():
    for path in FILES:
        yield path.name, ast.parse(path.read_text(encoding="ascii"))


def functions_of(tree):
    return [node for node in ast.walk(tree) if isinstance(node, ast.FunctionDef)]


def bound_names(tree):
    for node in ast.walk(tree):
        if isinstance(node, ast.Name) and not isinstance(node.ctx, ast.Load):
            yield node.id
        elif isinstance(node, ast.arg):
            yield node.arg
        elif isinstance(node, ast.ClassDef):
            yield node.name
    for node in tree.body:
        if isinstance(node, ast.FunctionDef):
            yield node.name


class LanguageTest(unittest.TestCase):
    def test_folder_has_plain_python_files_only(self):
        found = [path for path in PACKAGE.rglob("*") if "__pycache__" not in path.parts]
        for path in found:
            self.assertRegex(path.name, r"\A[a-z0-9_]+(\.py)?\Z")
            self.assertEqual(path.is_dir(), path.suffix != ".py")
        self.assertIn(PACKAGE / "__init__.py", FILES)

    def test_sizes_and_characters(self):
        for path in FILES:
            text = path.read_bytes().decode("ascii")
            self.assertRegex(text, r"\A[ -~\n]*\Z", path.name)
            lines = text.split("\n")
            self.assertLess(len(lines), 400, path.name)
            self.assertLessEqual(max(len(line) for line in lines), 120, path.name)

    def test_sizes_of_functions(self):
        for name, tree in trees():
            for function in functions_of(tree):
                self.assertLess(function.end_lineno - function.lineno, 40, (name, function.name))

    def test_imports(self):
        for name, tree in trees():
            for node in ast.walk(tree):
                self.assertNotIsInstance(node, ast.Import, name)
                if isinstance(node, ast.ImportFrom):
                    self.assertEqual(node.level, 0, name)
                    self.assertIn(node.module.split(".")[0], LIBRARY + ("tiltheap",), name)

    def test_module_level_contains_definitions_only(self):
        for name, tree in trees():
            for place, node in enumerate(tree.body):
                if place == 0 and isinstance(node, ast.Expr):
                    self.assertIsInstance(node.value, ast.Constant, name)
                    continue
                kinds = (ast.ImportFrom, ast.FunctionDef, ast.ClassDef, ast.Assign)
                self.assertIsInstance(node, kinds, name)

    def test_no_name_of_a_builtin_is_bound(self):
        for name, tree in trees():
            for bound in bound_names(tree):
                self.assertFalse(hasattr(builtins, bound), (name, bound))

    def test_barred_statements_and_words(self):
        for name, tree in trees():
            for node in ast.walk(tree):
                self.assertNotIsInstance(node, OTHER_NODES, name)
                words = [getattr(node, "id", ""), getattr(node, "attr", ""), getattr(node, "arg", "")]
                self.assertFalse(set(words) & set(BARRED_WORDS), name)
                self.assertFalse(isinstance(node, ast.Constant) and isinstance(node.value, float), name)

    def test_rests_are_taken_of_plain_numbers(self):
        for name, tree in trees():
            for node in ast.walk(tree):
                self.assertFalse(isinstance(node, ast.AugAssign) and isinstance(node.op, ast.Mod), name)
                if isinstance(node, ast.BinOp) and isinstance(node.op, ast.Mod):
                    self.assertIsInstance(node.left, ast.Call, name)
                    self.assertIn(node.left.func.id, ("int", "len"), name)

    def test_only_allowed_builtins_and_methods_are_used(self):
        own = {function.name for _, tree in trees() for function in functions_of(tree)}
        for name, tree in trees():
            for node in ast.walk(tree):
                if isinstance(node, ast.Name) and hasattr(builtins, node.id):
                    self.assertIn(node.id, BUILTINS, name)
                if isinstance(node, ast.Call) and isinstance(node.func, ast.Attribute):
                    self.assertIn(node.func.attr, own | set(METHODS), name)

    def test_strings_have_no_percent_signs(self):
        for name, tree in trees():
            for node in ast.walk(tree):
                if isinstance(node, ast.Constant) and isinstance(node.value, (str, bytes)):
                    self.assertFalse(re.search("%", str(node.value)), name)


if __name__ == "__main__":
    unittest.main()
