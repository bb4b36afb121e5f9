"""The package's files: what they hold, and what they must not do."""

import ast
import contextlib
import io
import pathlib
import re
import unittest

import wooldyes
from wooldyes.shares import all_costs, cost, judge, needs, share

FOLDER = pathlib.Path(wooldyes.__file__).parent
FILES = sorted(FOLDER.rglob("*.py"))
KEPT_OUT = ("open", "input", "print", "exec", "eval", "compile", "chr", "getattr", "setattr", "globals")


class Form(unittest.TestCase):
    def test_nothing_but_sources(self):
        found = [path for path in FOLDER.rglob("*") if path.is_file() and "__pycache__" not in path.parts]
        self.assertEqual(sorted(found), FILES)
        self.assertIn(FOLDER / "__init__.py", FILES)
        self.assertIn(FOLDER / "shares.py", FILES)

    def test_signs_and_sizes(self):
        for path in FILES:
            source = path.read_text(encoding="utf-8")
            self.assertIsNone(re.search(r"[^ -~\n]", source), path)
            self.assertLessEqual(len(source.splitlines()), 400, path)
            self.assertLessEqual(max(map(len, source.splitlines())), 120, path)

    def test_functions_are_short(self):
        for path in FILES:
            for node in ast.walk(ast.parse(path.read_text(encoding="utf-8"))):
                if isinstance(node, ast.FunctionDef):
                    self.assertLessEqual(node.end_lineno - node.lineno + 1, 40, node.name)

    def test_nothing_is_imported_and_nothing_read(self):
        for path in FILES:
            for node in ast.walk(ast.parse(path.read_text(encoding="utf-8"))):
                self.assertNotIsInstance(node, (ast.Import, ast.ImportFrom, ast.Global, ast.Nonlocal), path)
                if isinstance(node, ast.Name):
                    self.assertNotIn(node.id, KEPT_OUT, path)

    def test_nothing_is_printed(self):
        printed = io.StringIO()
        with contextlib.redirect_stdout(printed), contextlib.redirect_stderr(printed):
            judge([])
            judge(list(b"a 10 4\na 14 3\na 11 3\n"))
            judge(list(b"a 01 1\n"))
            judge([0] * 4097)
            needs(97, list(b"aab\naba\n"))
            needs(353, list(b"aab\naba\n"))
            needs(97, list(b"aab\nab\n"))
            share(97, list(b"aab\naba\n"), list(b"a 10 4\n"))
            share(98, list(b"aab\naba\n"), list(b"a 10 4\n"))
            cost(97, list(b"aab\naba\n"), list(b"a 10 4\n"))
            cost(98, list(b"aab\naba\n"), list(b"a 10 4\n"))
            all_costs(list(b"aab\naba\n"), list(b"a 10 4\n"))
            all_costs(list(b"aab\naba\n"), list(b"a 10 4\nb 1 9\n"))
        self.assertEqual(printed.getvalue(), "")


if __name__ == "__main__":
    unittest.main()
