"""The package's files: what they hold, and what they must not do."""

import ast
import builtins
import contextlib
import inspect
import io
import pathlib
import re
import unittest

import wooldyes
from words import MANY_CALLS, fresh
from wooldyes.shares import all_costs, cost, judge, left, needs, share

FOLDER = pathlib.Path(wooldyes.__file__).parent
FILES = sorted(FOLDER.rglob("*.py"))
# Kinds of a program's parts that stand for statements and values the language has not.
KEPT_OUT = (
    ast.Import, ast.ImportFrom, ast.Global, ast.Nonlocal, ast.With, ast.Match, ast.Delete, ast.Assert, ast.Yield,
    ast.YieldFrom, ast.AsyncFunctionDef, ast.Await, ast.SetComp, ast.DictComp, ast.GeneratorExp, ast.NamedExpr,
    ast.Starred, ast.Div, ast.Set, ast.AnnAssign, ast.Try,
)
OWN_NAMES_OF_PYTHON = (
    "len", "range", "enumerate", "zip", "min", "max", "sum", "abs", "sorted", "reversed", "int", "str", "bool", "list",
    "tuple", "dict", "isinstance", "ord", "repr", "any", "all", "divmod",
)
METHODS = (
    "append", "clear", "copy", "count", "extend", "get", "index", "insert", "items", "keys", "pop", "remove",
    "reverse", "setdefault", "update", "values",
)


def trees():
    return [ast.parse(path.read_text(encoding="utf-8")) for path in FILES]


def parts(kind):
    return [node for tree in trees() for node in ast.walk(tree) if isinstance(node, kind)]


class Form(unittest.TestCase):
    def test_nothing_but_sources(self):
        found = [path for path in FOLDER.rglob("*") if path.is_file() and "__pycache__" not in path.parts]
        self.assertEqual(sorted(found), FILES)
        self.assertIn(FOLDER / "__init__.py", FILES)
        self.assertIn(FOLDER / "shares.py", FILES)

    def test_signs_and_sizes(self):
        for path in FILES:
            source = path.read_text(encoding="utf-8")
            self.assertIsNone(re.search(r"[^ -~\n]", source), path)
            self.assertLessEqual(len(source.splitlines()), 400, path)
            self.assertLessEqual(max(map(len, source.splitlines())), 120, path)

    def test_functions_are_short(self):
        for node in parts(ast.FunctionDef):
            self.assertLessEqual(node.end_lineno - node.lineno + 1, 40, node.name)

    def test_nothing_of_what_the_language_has_not(self):
        self.assertEqual([ast.unparse(node) for node in parts(KEPT_OUT)], [])
        for node in parts(ast.Assign):
            self.assertEqual(len(node.targets), 1, ast.unparse(node))
        for node in parts(ast.Constant):
            self.assertIn(type(node.value), (int, str, type(None), bool), node.value)

    def test_few_of_pythons_own_names(self):
        for node in parts(ast.Name):
            if hasattr(builtins, node.id):
                self.assertIn(node.id, OWN_NAMES_OF_PYTHON)
                self.assertIsInstance(node.ctx, ast.Load)
        for node in parts(ast.arg):
            self.assertFalse(hasattr(builtins, node.arg), node.arg)

    def test_few_methods(self):
        for node in parts(ast.Call):
            if isinstance(node.func, ast.Attribute):
                self.assertIn(node.func.attr, METHODS)

    def test_plain_names(self):
        names = [node.id for node in parts(ast.Name)] + [node.arg for node in parts(ast.arg)]
        names += [node.attr for node in parts(ast.Attribute)]
        names += [node.name for node in parts((ast.FunctionDef, ast.ClassDef))]
        for name in names:
            self.assertTrue(name == "__init__" or re.fullmatch(r"[a-zA-Z][a-zA-Z0-9_]*", name), name)

    def test_the_files_tops_hold_plain_values(self):
        for tree in trees():
            for node in tree.body:
                if isinstance(node, ast.Assign):
                    self.assertIs(type(ast.literal_eval(node.value)), int)
                else:
                    self.assertIsInstance(node, (ast.Expr, ast.FunctionDef, ast.ClassDef))

    def test_nothing_is_printed(self):
        printed = io.StringIO()
        with contextlib.redirect_stdout(printed), contextlib.redirect_stderr(printed):
            for arguments in MANY_CALLS:
                for call in (judge, needs, share, cost, all_costs, left):
                    handed = dict(zip(("colour", "t", "b"), fresh(arguments)))
                    call(**{name: handed[name] for name in inspect.signature(call).parameters})
        self.assertEqual(printed.getvalue(), "")


if __name__ == "__main__":
    unittest.main()
