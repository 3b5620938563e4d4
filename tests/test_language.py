"""Holds the package's files to the written part of Python, as far as a file shows it by itself."""

import ast
import builtins
import re
import unittest
from pathlib import Path

PACKAGE = Path(__file__).resolve().parent.parent / "albumwhole"
FILES = sorted(PACKAGE.glob("*.py"))

BUILT_IN = {
    "len", "range", "enumerate", "zip", "min", "max", "sum", "abs", "sorted", "reversed", "int", "str", "bool", "list",
    "tuple", "dict", "set", "frozenset", "isinstance", "ord", "repr", "any", "all", "divmod", "NotImplementedError",
}
METHODS = {
    "append", "clear", "copy", "count", "endswith", "extend", "find", "get", "index", "insert", "items", "join", "keys",
    "pop", "remove", "replace", "reverse", "setdefault", "split", "strip", "update", "values", "bit_length",
}
NODES = (
    ast.Module, ast.ImportFrom, ast.alias, ast.FunctionDef, ast.arguments, ast.arg, ast.ClassDef, ast.Assign,
    ast.AugAssign, ast.If, ast.While, ast.For, ast.Return, ast.Break, ast.Continue, ast.Pass, ast.Raise, ast.Expr,
    ast.Constant, ast.List, ast.Tuple, ast.Dict, ast.BinOp, ast.UnaryOp, ast.Compare, ast.BoolOp, ast.IfExp, ast.Call,
    ast.Attribute, ast.Subscript, ast.Slice, ast.ListComp, ast.comprehension, ast.JoinedStr, ast.FormattedValue,
    ast.Lambda, ast.Name, ast.expr_context, ast.operator, ast.unaryop, ast.cmpop, ast.boolop,
)
WORDS = re.compile(r"\b(type|typing|typing_extensions|enum|Enum|IntEnum|StrEnum|Flag|IntFlag|Generic|Protocol|ABC|ABCMeta"
                   r"|namedtuple|NamedTuple|TypedDict|TYPE_CHECKING|abstractmethod)\b|dataclass|overload|contextmanager")


def nodes(tree, *sorts):
    return [node for node in ast.walk(tree) if isinstance(node, sorts)]


class Language(unittest.TestCase):
    def setUp(self):
        self.sources = {path.name: path.read_text("utf-8") for path in FILES}
        self.trees = {name: ast.parse(source) for name, source in self.sources.items()}

    def test_only_plain_files(self):
        self.assertIn("__init__.py", self.sources)
        for path in PACKAGE.iterdir():
            if path.name != "__pycache__":
                self.assertRegex(path.name, r"^(__init__|[a-z][a-z0-9_]*)\.py$")

    def test_size_and_signs(self):
        for name, source in self.sources.items():
            rows = source.split("\n")
            self.assertLessEqual(len(rows), 400, name)
            self.assertLessEqual(max(map(len, rows)), 120, name)
            self.assertRegex(source, r"\A[ -~\n]*\Z", name)
            self.assertIsNone(WORDS.search(source), name)
            for function in nodes(self.trees[name], ast.FunctionDef):
                self.assertLessEqual(function.end_lineno - function.lineno + 1, 40, function.name)

    def test_only_the_named_forms(self):
        for name, tree in self.trees.items():
            for node in ast.walk(tree):
                with self.subTest(file=name, line=getattr(node, "lineno", 0)):
                    self.assertIsInstance(node, NODES)
                    if isinstance(node, ast.Constant):
                        self.assertIsInstance(node.value, (int, str, type(None)))
                    if isinstance(node, ast.BinOp):
                        self.assertNotIsInstance(node.op, (ast.Div, ast.Pow, ast.MatMult))
                    if isinstance(node, ast.Assign):
                        self.assertEqual(len(node.targets), 1)
                        self.assertNotIsInstance(node.targets[0], (ast.Tuple, ast.List))
                    if isinstance(node, (ast.For, ast.While)):
                        self.assertEqual(node.orelse, [])
                    if isinstance(node, ast.ListComp):
                        self.assertEqual(len(node.generators), 1)
                        self.assertLessEqual(len(node.generators[0].ifs), 1)
                    if isinstance(node, ast.FunctionDef):
                        self.assertEqual(node.decorator_list, [])
                        self.assertIsNone(node.args.vararg or node.args.kwarg or node.returns)

    def test_is_stands_beside_none_alone(self):
        for tree in self.trees.values():
            for node in nodes(tree, ast.Compare):
                for sign, right in zip(node.ops, node.comparators):
                    if isinstance(sign, (ast.Is, ast.IsNot)):
                        self.assertIsInstance(right, ast.Constant)

    def test_imports_are_the_packages_own_and_turn_in_no_circle(self):
        drawn = {}
        for name, tree in self.trees.items():
            drawn[name] = []
            for node in nodes(tree, ast.ImportFrom):
                self.assertEqual((node.level, node.module.split(".")[0], len(node.module.split("."))), (0, "albumwhole", 2))
                source = node.module.split(".")[1] + ".py"
                drawn[name].append(source)
                for drawn_name in node.names:
                    self.assertIsNone(drawn_name.asname)
                    self.assertIn(drawn_name.name, top_names(self.trees[source]))
        while drawn:
            free = [name for name, sources in drawn.items() if not any(source in drawn for source in sources)]
            self.assertTrue(free, drawn)
            for name in free:
                drawn.pop(name)

    def test_names(self):
        for name, tree in self.trees.items():
            own = top_names(tree)
            self.assertEqual(len(own), len(set(own)), name)
            imports = [alias.name for node in nodes(tree, ast.ImportFrom) for alias in node.names]
            inner = [node.arg for node in nodes(tree, ast.arg)]
            for function in nodes(tree, ast.FunctionDef, ast.ListComp, ast.Lambda):
                inner += [node.id for node in nodes(function, ast.Name) if isinstance(node.ctx, ast.Store)]
            for word in inner:
                self.assertRegex(word, r"^[a-z][a-z0-9_]*$")
                self.assertNotIn(word, imports + own, name)
                self.assertFalse(hasattr(builtins, word), word)
            for node in nodes(tree, ast.Name):
                self.assertIn(node.id, set(inner) | set(own) | set(imports) | BUILT_IN, name)

    def test_methods(self):
        own = {node.name for tree in self.trees.values() for top in nodes(tree, ast.ClassDef) for node in top.body
               if isinstance(node, ast.FunctionDef)}
        for tree in self.trees.values():
            for node in nodes(tree, ast.Call):
                if isinstance(node.func, ast.Attribute):
                    self.assertIn(node.func.attr, own | METHODS)

    def test_the_top_of_a_file_holds_plain_values(self):
        for name, tree in self.trees.items():
            self.assertIsNotNone(ast.get_docstring(tree), name)
            defined = []
            for node in tree.body[1:]:
                self.assertIsInstance(node, (ast.ImportFrom, ast.FunctionDef, ast.ClassDef, ast.Assign))
                if isinstance(node, ast.FunctionDef):
                    defined.append(node.name)
                if isinstance(node, ast.Assign):
                    for inner in nodes(node.value, ast.expr):
                        self.assertIsInstance(inner, (ast.Constant, ast.Tuple, ast.Dict, ast.List, ast.UnaryOp, ast.Name))
                        if isinstance(inner, ast.Name):
                            self.assertIn(inner.id, defined)


def top_names(tree):
    found = [node.name for node in tree.body if isinstance(node, (ast.FunctionDef, ast.ClassDef))]
    return found + [target.id for node in tree.body if isinstance(node, ast.Assign) for target in node.targets]


if __name__ == "__main__":
    unittest.main()
