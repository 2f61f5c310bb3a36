"""The package keeps to a small part of Python; what can be seen from its files' trees is checked here."""

import ast
import builtins
import pathlib
import re
import unittest

PACKAGE = pathlib.Path(__file__).resolve().parent.parent / "tidelocks"
FILES = sorted(PACKAGE.glob("*.py"))

NODES = {
    "Module", "Expr", "Constant", "ImportFrom", "alias", "Assign", "Name", "Load", "Store", "Tuple", "List", "Dict",
    "FunctionDef", "ClassDef", "arguments", "arg", "Return", "If", "While", "For", "Break", "Continue", "Pass",
    "Raise", "Try", "ExceptHandler", "AugAssign", "UnaryOp", "USub", "UAdd", "Invert", "Not", "BinOp", "Add", "Sub", "Mult",
    "FloorDiv", "Mod", "LShift", "RShift", "BitAnd", "BitOr", "BitXor", "BoolOp", "And", "Or", "Compare", "Eq",
    "NotEq", "Lt", "LtE", "Gt", "GtE", "In", "NotIn", "Is", "IsNot", "IfExp", "Call", "Attribute", "Subscript",
    "Slice", "ListComp", "comprehension", "JoinedStr", "FormattedValue", "Lambda", "keyword",
}
OWN_NAMES = {
    "len", "range", "enumerate", "zip", "min", "max", "sum", "abs", "sorted", "reversed", "int", "str", "bool", "list",
    "tuple", "dict", "set", "frozenset", "isinstance", "ord", "repr", "any", "all", "divmod", "ValueError",
    "KeyError", "ZeroDivisionError", "LookupError", "IndexError", "Exception", "ArithmeticError", "OverflowError",
}
METHODS = {
    "append", "clear", "copy", "count", "endswith", "extend", "find", "get", "index", "insert", "items", "join", "keys",
    "ljust", "pop", "remove", "replace", "reverse", "rjust", "setdefault", "split", "startswith", "strip", "update",
    "values", "zfill", "bit_length",
}
WORDS = r"\b(type|typing|enum|Enum|Flag|Generic|Protocol|ABC|namedtuple|NamedTuple|TypedDict)\b"
UNUSED = ("open", "input", "register", "elements", "mro", "format")
PLAIN_TOP = (ast.Assign, ast.ImportFrom, ast.FunctionDef, ast.ClassDef, ast.Expr)


def bound_names(tree):
    for node in ast.walk(tree):
        if isinstance(node, ast.Name) and isinstance(node.ctx, ast.Store):
            yield node.id
        elif isinstance(node, ast.arg):
            yield node.arg
        elif isinstance(node, (ast.FunctionDef, ast.ClassDef)) and node.name != "__init__":
            yield node.name


class Language(unittest.TestCase):
    def setUp(self):
        self.trees = [(path, path.read_text(encoding="ascii")) for path in FILES]
        self.trees = [(path.name, source, ast.parse(source)) for path, source in self.trees]

    def test_files(self):
        self.assertIn("__init__.py", [path.name for path in FILES])
        others = [path.name for path in PACKAGE.iterdir() if path.suffix != ".py" and path.name != "__pycache__"]
        self.assertEqual(others, [])
        for path in FILES:
            self.assertRegex(path.name, r"^(__init__|[a-z][a-z0-9_]*)\.py$")

    def test_size_and_signs(self):
        for name, source, tree in self.trees:
            lines = source.split("\n")
            self.assertLessEqual(len(lines), 400, name)
            for line in lines:
                self.assertLessEqual(len(line), 120, (name, line))
                self.assertTrue(all(" " <= sign <= "~" for sign in line), (name, line))
                self.assertIsNone(re.search(WORDS, line), (name, line))
            for node in ast.walk(tree):
                if isinstance(node, ast.FunctionDef):
                    self.assertLessEqual(node.end_lineno - node.lineno + 1, 40, (name, node.name))

    def test_nodes(self):
        for name, source, tree in self.trees:
            for node in ast.walk(tree):
                self.assertIn(node.__class__.__name__, NODES, (name, getattr(node, "lineno", 0)))
                if isinstance(node, ast.Constant):
                    self.assertIn(node.value.__class__.__name__, ("int", "str", "bool", "NoneType"), name)
                if isinstance(node, ast.Assign):
                    self.assertEqual(len(node.targets), 1, (name, node.lineno))
                    self.assertNotIsInstance(node.targets[0], ast.Tuple, (name, node.lineno))
                if isinstance(node, ast.FunctionDef):
                    self.assertEqual(node.decorator_list, [], (name, node.lineno))
                    self.assertEqual((node.args.vararg, node.args.kwarg, node.args.kwonlyargs), (None, None, []))
                if isinstance(node, (ast.For, ast.While)):
                    self.assertEqual(node.orelse, [], (name, node.lineno))

    def test_the_top_of_a_file(self):
        for name, source, tree in self.trees:
            for node in tree.body:
                self.assertIsInstance(node, PLAIN_TOP, (name, node.lineno))
                if isinstance(node, ast.Expr):
                    self.assertIsInstance(node.value, ast.Constant, (name, node.lineno))
                if isinstance(node, ast.Assign):
                    inner = {one.__class__ for one in ast.walk(node.value)}
                    self.assertLessEqual(inner, {ast.Constant, ast.UnaryOp, ast.USub, ast.Tuple, ast.Dict, ast.List,
                                                 ast.Name, ast.Load}, (name, node.lineno))
            bound = [node.targets[0].id for node in tree.body if isinstance(node, ast.Assign)]
            bound += [node.name for node in tree.body if isinstance(node, (ast.FunctionDef, ast.ClassDef))]
            self.assertEqual(len(bound), len(set(bound)), name)

    def test_imports_are_the_packages_own_and_go_one_way(self):
        drawn = {}
        for name, source, tree in self.trees:
            rows = [node for node in ast.walk(tree) if isinstance(node, ast.ImportFrom)]
            for node in rows:
                self.assertEqual(node.level, 0)
                self.assertRegex(node.module, r"^tidelocks\.[a-z_]+$")
            drawn[name[:-3]] = {node.module.split(".")[1] for node in rows}
        self.assertEqual(drawn["__init__"], set())
        while drawn:
            free = [name for name, others in drawn.items() if not others & set(drawn)]
            self.assertTrue(free, drawn)
            drawn = {name: others for name, others in drawn.items() if name not in free}

    def test_names(self):
        for name, source, tree in self.trees:
            imported = {one.name for node in tree.body if isinstance(node, ast.ImportFrom) for one in node.names}
            for bound in bound_names(tree):
                self.assertFalse(hasattr(builtins, bound), (name, bound))
                self.assertNotIn(bound, imported, name)
                self.assertFalse(bound.startswith("_"), (name, bound))
            known = set(bound_names(tree)) | imported | OWN_NAMES
            for node in ast.walk(tree):
                if isinstance(node, ast.Name):
                    self.assertIn(node.id, known, (name, node.lineno))
                if isinstance(node, ast.Attribute):
                    self.assertNotIn(node.attr, UNUSED, (name, node.lineno))

    def test_methods_are_the_few_that_are_allowed(self):
        for name, source, tree in self.trees:
            for node in ast.walk(tree):
                if isinstance(node, ast.Call) and isinstance(node.func, ast.Attribute):
                    self.assertIn(node.func.attr, METHODS, (name, node.lineno))


if __name__ == "__main__":
    unittest.main()
