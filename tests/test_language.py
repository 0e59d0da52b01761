"""What of the rules for the package's own files is easily broken and easily seen."""

import ast
import pathlib
import re
import unittest

import pictureareas

FOLDER = pathlib.Path(pictureareas.__file__).parent
LEFT_OUT = (ast.Import, ast.With, ast.Match, ast.Delete, ast.Global, ast.Nonlocal, ast.Assert, ast.Yield, ast.YieldFrom,
            ast.AsyncFunctionDef, ast.Await, ast.SetComp, ast.DictComp, ast.GeneratorExp, ast.NamedExpr, ast.Starred,
            ast.Div, ast.Is, ast.IsNot)
WORDS = re.compile(r"\b(type|typing|enum|Enum|Flag|Generic|Protocol|ABC|namedtuple)\b|dataclass|overload|contextmanager")


class Rules(unittest.TestCase):
    def files(self):
        found = sorted(FOLDER.glob("**/*.py"))
        self.assertGreaterEqual(len(found), 2)
        return [(path.name, path.read_text(encoding="ascii")) for path in found]

    def test_rows_and_signs(self):
        for name, text in self.files():
            rows = text.split("\n")
            self.assertLessEqual(len(rows), 401, name)
            self.assertLessEqual(max(len(row) for row in rows), 120, name)
            self.assertIsNone(re.search(r"[^ -~\n]", text), name)
            self.assertIsNone(WORDS.search(text), name)

    def test_no_form_that_is_left_out(self):
        for name, text in self.files():
            for node in ast.walk(ast.parse(text)):
                self.assertNotIsInstance(node, LEFT_OUT, name)
                if isinstance(node, ast.Assign):
                    self.assertEqual(len(node.targets), 1, name)
                if isinstance(node, ast.FunctionDef):
                    self.assertLessEqual(node.end_lineno - node.lineno + 1, 40, node.name)
                    self.assertEqual(node.decorator_list, [], node.name)
                if isinstance(node, ast.ImportFrom):
                    self.assertTrue(node.level == 0 and node.module.startswith("pictureareas."), name)
                if isinstance(node, ast.Constant):
                    self.assertIn(type(node.value), (int, str, bool, type(None)), name)
