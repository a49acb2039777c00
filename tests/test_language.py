"""The package's own files: the part of Python they keep to, and that they print, read and import nothing."""

import ast
import builtins
import re
import unittest
from pathlib import Path

PACKAGE = Path(__file__).resolve().parent.parent / "movesthatend"
FILES = ["__init__.py", "groups.py"]

STATEMENTS = (
    ast.Module, ast.FunctionDef, ast.arguments, ast.arg, ast.Assign, ast.AugAssign, ast.If, ast.While, ast.For,
    ast.Return, ast.Break, ast.Continue, ast.Pass, ast.Expr
)
EXPRESSIONS = (
    ast.Name, ast.Constant, ast.List, ast.Tuple, ast.Dict, ast.BinOp, ast.UnaryOp, ast.BoolOp, ast.Compare, ast.IfExp,
    ast.Call, ast.Attribute, ast.Subscript, ast.Slice, ast.ListComp, ast.comprehension, ast.expr_context, ast.boolop,
    ast.unaryop, ast.cmpop, ast.Add, ast.Sub, ast.Mult, ast.FloorDiv, ast.Mod
)
OWN_NAMES_USED = ("len", "range", "enumerate", "min", "max", "sum", "abs", "sorted", "list", "tuple", "any", "all")
METHODS = ("append", "get", "index", "copy", "extend", "pop")
WORDS_LEFT_OUT = (
    "type", "typing", "typing_extensions", "enum", "Enum", "IntEnum", "StrEnum", "Flag", "IntFlag", "Generic",
    "Protocol", "ABC", "ABCMeta", "namedtuple", "NamedTuple", "TypedDict", "TYPE_CHECKING", "abstractmethod"
)


class ThePackagesFiles(unittest.TestCase):

    def texts(self):
        return [(name, (PACKAGE / name).read_bytes().decode("ascii")) for name in FILES]

    def nodes(self):
        return [node for name, text in self.texts() for node in ast.walk(ast.parse(text))]

    def test_nothing_else_lies_in_it(self):
        self.assertEqual(sorted(path.name for path in PACKAGE.iterdir() if path.name != "__pycache__"), FILES)

    def test_signs_and_lengths(self):
        for name, text in self.texts():
            rows = text.split("\n")
            self.assertLessEqual(len(rows), 400, name)
            for row in rows:
                self.assertLessEqual(len(row), 120, row)
                self.assertTrue(all(" " <= sign <= "~" for sign in row), row)

    def test_words_left_out(self):
        for name, text in self.texts():
            for word in re.findall(r"\w+", text):
                self.assertNotIn(word, WORDS_LEFT_OUT, name)

    def test_only_plain_statements_and_expressions(self):
        for node in self.nodes():
            self.assertIsInstance(node, STATEMENTS + EXPRESSIONS, ast.dump(node))

    def test_defs_are_plain_and_short(self):
        for node in self.nodes():
            if isinstance(node, ast.FunctionDef):
                self.assertLessEqual(node.end_lineno - node.lineno + 1, 40, node.name)
                told = node.args
                self.assertEqual([told.vararg, told.kwarg, told.kwonlyargs, told.posonlyargs], [None, None, [], []])
                self.assertEqual(node.decorator_list, [])

    def test_names(self):
        for node in self.nodes():
            if isinstance(node, ast.Name) and hasattr(builtins, node.id):
                self.assertIn(node.id, OWN_NAMES_USED)
                self.assertIsInstance(node.ctx, ast.Load)
            if isinstance(node, (ast.arg, ast.FunctionDef)):
                name = node.arg if isinstance(node, ast.arg) else node.name
                self.assertFalse(hasattr(builtins, name), name)
                self.assertFalse(name.startswith("_"), name)
            if isinstance(node, ast.Attribute):
                self.assertIn(node.attr, METHODS)

    def test_nothing_is_kept_at_a_files_top(self):
        for name, text in self.texts():
            for node in ast.parse(text).body:
                if isinstance(node, ast.Assign):
                    self.assertIsInstance(ast.literal_eval(node.value), int)


if __name__ == "__main__":
    unittest.main()
