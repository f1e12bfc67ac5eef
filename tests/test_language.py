"""The package's own files keep to the small part of Python that can be seen by walking their trees."""

import ast
import builtins
import pathlib
import re
import unittest

PACKAGE = pathlib.Path(__file__).resolve().parent.parent / "checkedformats"
FILES = sorted(path for path in PACKAGE.iterdir() if path.name != "__pycache__")

STATEMENTS = (
    ast.Module, ast.Assign, ast.AugAssign, ast.If, ast.While, ast.For, ast.Return, ast.Break, ast.Continue, ast.Pass,
    ast.Raise, ast.Try, ast.ExceptHandler, ast.Expr, ast.FunctionDef, ast.ClassDef, ast.ImportFrom, ast.arguments,
    ast.arg, ast.alias, ast.keyword,
)
EXPRESSIONS = (
    ast.Constant, ast.List, ast.Tuple, ast.Dict, ast.BinOp, ast.UnaryOp, ast.BoolOp, ast.Compare, ast.IfExp, ast.Call,
    ast.Attribute, ast.Subscript, ast.Slice, ast.ListComp, ast.comprehension, ast.Name, ast.expr_context, ast.operator,
    ast.unaryop, ast.boolop, ast.cmpop,
)
BUILTINS_USED = {"len", "range", "min", "max", "list", "Exception"}
METHODS_USED = {"append", "extend", "get"}
BANNED_WORDS = re.compile(
    r"\b(type|typing|enum|Enum|Flag|Generic|Protocol|ABC|namedtuple|NamedTuple|TypedDict)\b"
    r"|dataclass|overload|contextmanager"
)


def trees():
    return [(path.name, ast.parse(path.read_text("utf-8"))) for path in FILES]


def nodes():
    return [(name, node) for name, tree in trees() for node in ast.walk(tree)]


class Language(unittest.TestCase):
    def test_only_plain_files(self):
        for path in FILES:
            self.assertRegex(path.name, r"^(__init__|[a-z][a-z0-9_]*)\.py$")
        self.assertIn("__init__.py", [path.name for path in FILES])

    def test_signs_and_sizes(self):
        for path in FILES:
            text = path.read_text("utf-8")
            self.assertRegex(text, r"\A[ -~\n]*\Z", path.name)
            self.assertLessEqual(len(text.splitlines()), 400, path.name)
            self.assertLessEqual(max(map(len, text.splitlines())), 120, path.name)
            self.assertIsNone(BANNED_WORDS.search(text), path.name)

    def test_kinds_of_nodes(self):
        for name, node in nodes():
            self.assertIsInstance(node, STATEMENTS + EXPRESSIONS, f"{name}: {ast.dump(node)}")

    def test_functions(self):
        for name, node in nodes():
            if isinstance(node, ast.FunctionDef):
                self.assertLessEqual(node.end_lineno - node.lineno + 1, 40, f"{name}: {node.name}")
                self.assertEqual(node.decorator_list, [])
                self.assertIsNone(node.args.vararg or node.args.kwarg or node.returns)

    def test_imports_are_the_packages_own(self):
        for name, node in nodes():
            if isinstance(node, ast.ImportFrom):
                self.assertEqual(node.level, 0)
                self.assertTrue(node.module.startswith("checkedformats."), f"{name}: {node.module}")
                self.assertIn(node.module.partition(".")[2] + ".py", [path.name for path in FILES])

    def test_names(self):
        own = {node.name for _, node in nodes() if isinstance(node, (ast.FunctionDef, ast.ClassDef))}
        for name, node in nodes():
            if isinstance(node, ast.Name) and hasattr(builtins, node.id):
                self.assertIn(node.id, BUILTINS_USED, name)
                self.assertIsInstance(node.ctx, ast.Load, name)
            if isinstance(node, ast.arg):
                self.assertFalse(hasattr(builtins, node.arg), f"{name}: {node.arg}")
            if isinstance(node, ast.Call) and isinstance(node.func, ast.Attribute):
                self.assertIn(node.func.attr, own | METHODS_USED | {"__init__"}, name)

    def test_values(self):
        for name, node in nodes():
            if isinstance(node, ast.Constant):
                self.assertIsInstance(node.value, (int, str, type(None)), name)
                self.assertNotIn("%", str(node.value), name)
            if isinstance(node, ast.BinOp):
                self.assertNotIsInstance(node.op, (ast.Div, ast.Pow, ast.MatMult), name)
            if isinstance(node, (ast.For, ast.While)):
                self.assertEqual(node.orelse, [], name)


if __name__ == "__main__":
    unittest.main()
