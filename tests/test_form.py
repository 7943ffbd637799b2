"""How the package's own files are written: the rules of the language that can be seen by a look."""

import ast
import pathlib
import re
import unittest

PACKAGE = pathlib.Path(__file__).resolve().parent.parent / "hubpanels"

STATEMENTS = (
    ast.Module, ast.FunctionDef, ast.ClassDef, ast.Assign, ast.AugAssign, ast.If, ast.While, ast.For,
    ast.Return, ast.Break, ast.Continue, ast.Pass, ast.Expr,
)
EXPRESSIONS = (
    ast.Constant, ast.List, ast.Tuple, ast.Dict, ast.BinOp, ast.UnaryOp, ast.BoolOp, ast.Compare,
    ast.IfExp, ast.Call, ast.Attribute, ast.Subscript, ast.Slice, ast.ListComp, ast.Name, ast.Lambda,
)
PARTS = (
    ast.arguments, ast.arg, ast.keyword, ast.comprehension, ast.expr_context, ast.operator, ast.unaryop,
    ast.boolop, ast.cmpop,
)
BUILT_IN = {
    "len", "range", "enumerate", "zip", "min", "max", "sum", "abs", "sorted", "reversed", "int", "str",
    "bool", "list", "tuple", "dict", "isinstance", "ord", "any", "all", "divmod",
}
METHODS = {
    "append", "clear", "copy", "count", "extend", "find", "get", "index", "insert", "items", "join", "keys",
    "pop", "remove", "reverse", "setdefault", "update", "values",
}
WORDS_NOWHERE = re.compile(
    r"\b(type|typing|typing_extensions|enum|Enum|IntEnum|StrEnum|Flag|IntFlag|Generic|Protocol|ABC|ABCMeta"
    r"|namedtuple|NamedTuple|TypedDict|TYPE_CHECKING|abstractmethod)\b|dataclass|overload|contextmanager"
)


class Form(unittest.TestCase):
    def setUp(self):
        self.files = sorted(path for path in PACKAGE.iterdir() if path.name != "__pycache__")
        self.trees = {path: ast.parse(path.read_text(encoding="utf-8")) for path in self.files}

    def test_the_folder_holds_plain_files_alone(self):
        names = [path.name for path in self.files]
        self.assertIn("__init__.py", names)
        self.assertIn("panels.py", names)
        for name in names:
            self.assertRegex(name, r"^(__init__|[a-z][a-z0-9_]*)\.py$")

    def test_signs_and_sizes(self):
        for path in self.files:
            rows = path.read_text(encoding="utf-8").split("\n")
            self.assertLessEqual(len(rows), 401)
            for row in rows:
                self.assertLessEqual(len(row), 120)
                self.assertRegex(row, r"^[ -~]*$")
                self.assertIsNone(WORDS_NOWHERE.search(row), row)

    def test_functions_are_short_and_plain(self):
        for node in self.nodes(ast.FunctionDef):
            self.assertLessEqual(node.end_lineno - node.lineno + 1, 40, node.name)
            self.assertEqual(node.decorator_list, [])
            given = node.args
            self.assertFalse(given.vararg or given.kwarg or given.kwonlyargs or given.posonlyargs, node.name)

    def test_only_known_forms_stand_there(self):
        for node in self.nodes(ast.AST):
            self.assertIsInstance(node, STATEMENTS + EXPRESSIONS + PARTS, ast.dump(node))
            if isinstance(node, ast.Constant):
                self.assertNotIsInstance(node.value, (float, bytes, complex))
            if isinstance(node, (ast.For, ast.While)):
                self.assertEqual(node.orelse, [])
            if isinstance(node, ast.Assign):
                self.assertEqual(len(node.targets), 1)
            if isinstance(node, ast.BinOp):
                self.assertNotIsInstance(node.op, (ast.Div, ast.MatMult))

    def test_what_stands_by_itself_is_a_call(self):
        for tree in self.trees.values():
            for node in ast.walk(tree):
                if isinstance(node, ast.Expr) and node is not tree.body[0]:
                    self.assertIsInstance(node.value, ast.Call)

    def test_called_names_are_the_package_s_own_or_listed(self):
        own = {node.name for node in self.nodes((ast.FunctionDef, ast.ClassDef))}
        for node in self.nodes(ast.Call):
            if isinstance(node.func, ast.Name):
                self.assertIn(node.func.id, own | BUILT_IN)
            else:
                self.assertIn(node.func.attr, own | METHODS)

    def test_names_are_plain(self):
        for node in self.nodes(ast.Name):
            self.assertRegex(node.id, r"^[A-Za-z][A-Za-z0-9_]*$")
        for node in self.nodes(ast.FunctionDef):
            self.assertRegex(node.name, r"^([a-z][a-z0-9_]*|__init__)$")

    def nodes(self, kinds):
        return [node for tree in self.trees.values() for node in ast.walk(tree) if isinstance(node, kinds)]


if __name__ == "__main__":
    unittest.main()
