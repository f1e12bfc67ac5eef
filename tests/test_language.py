"""The package's own files keep to the small part of Python that can be seen by walking their trees."""

import ast
import builtins
import pathlib
import re
import unittest

PACKAGE = pathlib.Path(__file__).resolve().parent.parent / "checkedformats"
FILES = sorted(path for path in PACKAGE.iterdir() if path.name != "__pycache__")

STATEMENTS = (
    ast.Module, ast.Assign, ast.AugAssign, ast.If, ast.While, ast.For, ast.Return, ast.Break, ast.Continue, ast.Pass,
    ast.Raise, ast.Try, ast.ExceptHandler, ast.Expr, ast.FunctionDef, ast.ClassDef, ast.ImportFrom, ast.arguments,
    ast.arg, ast.alias, ast.keyword,
)
EXPRESSIONS = (
    ast.Constant, ast.List, ast.Tuple, ast.Dict, ast.BinOp, ast.UnaryOp, ast.BoolOp, ast.Compare, ast.IfExp, ast.Call,
    ast.Attribute, ast.Subscript, ast.Slice, ast.ListComp, ast.comprehension, ast.Name, ast.expr_context, ast.operator,
    ast.unaryop, ast.boolop, ast.cmpop,
)
BUILTINS_USED = {"len", "range", "enumerate", "reversed", "min", "max", "abs", "list", "Exception"}
METHODS_USED = {"append", "extend", "get"}
BANNED_WORDS = re.compile(
    r"\b(type|typing|typing_extensions|enum|Enum|IntEnum|StrEnum|Flag|IntFlag|Generic|Protocol|ABC|ABCMeta"
    r"|namedtuple|NamedTuple|TypedDict|TYPE_CHECKING|abstractmethod)\b|dataclass|overload|contextmanager"
)


def trees():
    return [(path.name, ast.parse(path.read_text("utf-8"))) for path in FILES]


def nodes():
    return [(name, node) for name, tree in trees() for node in ast.walk(tree)]


class Language(unittest.TestCase):
    def test_only_plain_files(self):
        for path in FILES:
            self.assertRegex(path.name, r"^(__init__|[a-z][a-z0-9_]*)\.py$")
        self.assertIn("__init__.py", [path.name for path in FILES])

    def test_signs_and_sizes(self):
        for path in FILES:
            text = path.read_text("utf-8")
            self.assertRegex(text, r"\A[ -~\n]*\Z", path.name)
            self.assertLessEqual(len(text.splitlines()), 400, path.name)
            self.assertLessEqual(max(map(len, text.splitlines())), 120, path.name)
            self.assertIsNone(BANNED_WORDS.search(text), path.name)

    def test_kinds_of_nodes(self):
        for name, node in nodes():
            self.assertIsInstance(node, STATEMENTS + EXPRESSIONS, f"{name}: {ast.dump(node)}")

    def test_functions(self):
        for name, node in nodes():
            if isinstance(node, ast.FunctionDef):
                self.assertLessEqual(node.end_lineno - node.lineno + 1, 40, f"{name}: {node.name}")
                self.assertEqual(node.decorator_list, [])
                self.assertIsNone(node.args.vararg or node.args.kwarg or node.returns)

    def test_imports_are_the_packages_own(self):
        for name, node in nodes():
            if isinstance(node, ast.ImportFrom):
                self.assertEqual(node.level, 0)
                self.assertTrue(node.module.startswith("checkedformats."), f"{name}: {node.module}")
                self.assertIn(node.module.partition(".")[2] + ".py", [path.name for path in FILES])

    def test_names(self):
        own = {node.name for _, node in nodes() if isinstance(node, (ast.FunctionDef, ast.ClassDef))}
        for name, node in nodes():
            if isinstance(node, ast.Name) and hasattr(builtins, node.id):
                self.assertIn(node.id, BUILTINS_USED, name)
                self.assertIsInstance(node.ctx, ast.Load, name)
            if isinstance(node, ast.arg):
                self.assertFalse(hasattr(builtins, node.arg), f"{name}: {node.arg}")
            if isinstance(node, ast.Call) and isinstance(node.func, ast.Attribute):
                self.assertIn(node.func.attr, own | METHODS_USED | {"__init__"}, name)

    def test_values(self):
        for name, node in nodes():
            if isinstance(node, ast.Constant):
                self.assertIsInstance(node.value, (int, str, type(None)), name)
                self.assertNotIn("%", str(node.value), name)
            if isinstance(node, ast.BinOp):
                self.assertNotIsInstance(node.op, (ast.Div, ast.Pow, ast.MatMult), name)
            if isinstance(node, (ast.For, ast.While)):
                self.assertEqual(node.orelse, [], name)

    def test_methods_and_values_of_objects_have_names_of_their_own(self):
        methods = {node.name for _, tree in nodes() if isinstance(tree, ast.ClassDef) for node in tree.body
                   if isinstance(node, ast.FunctionDef)}
        values = {node.attr for _, node in nodes() if isinstance(node, ast.Attribute)
                  and isinstance(node.ctx, ast.Store)}
        self.assertEqual(methods & values, set())
        taken = {name for owner in (str, int, list, tuple, dict, set, bytes, Exception) for name in dir(owner)}
        self.assertEqual((methods | values) & taken, {"__init__"})

    def test_the_top_of_a_file(self):
        for name, tree in trees():
            for node in tree.body[1:]:
                self.assertIsInstance(node, (ast.ImportFrom, ast.FunctionDef, ast.ClassDef, ast.Assign), name)
                if isinstance(node, ast.Assign) and node.targets[0].id != "ANSWERERS":
                    ast.literal_eval(node.value)

    def test_names_are_bound_once_and_plain(self):
        for name, tree in trees():
            bound = []
            for node in tree.body:
                if isinstance(node, ast.Assign):
                    bound.extend(target.id for target in node.targets)
                elif isinstance(node, ast.ImportFrom):
                    bound.extend(alias.asname or alias.name for alias in node.names)
                elif isinstance(node, (ast.FunctionDef, ast.ClassDef)):
                    bound.append(node.name)
            self.assertEqual(len(bound), len(set(bound)), name)
            local = {node.id for node in ast.walk(tree) if isinstance(node, ast.Name)
                     and isinstance(node.ctx, ast.Store)} - {node.targets[0].id for node in tree.body
                                                             if isinstance(node, ast.Assign)}
            local |= {node.arg for node in ast.walk(tree) if isinstance(node, ast.arg)}
            self.assertEqual(local & set(bound), set(), name)
            for word in local | set(bound):
                self.assertRegex(word, r"^[A-Za-z][A-Za-z0-9_]*$", name)

    def test_no_two_files_draw_from_one_another(self):
        drawn = {path.stem: {node.module.partition(".")[2] for node in ast.walk(ast.parse(path.read_text("utf-8")))
                             if isinstance(node, ast.ImportFrom)} for path in FILES}
        while drawn:
            free = [name for name, others in drawn.items() if not others & set(drawn)]
            self.assertNotEqual(free, [], drawn)
            drawn = {name: others for name, others in drawn.items() if name not in free}


if __name__ == "__main__":
    unittest.main()
