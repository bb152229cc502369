"""The package's own files keep to the small part of Python that they are to be written in."""

import ast
import builtins
import pathlib
import re
import unittest

PACKAGE = pathlib.Path(__file__).resolve().parent.parent / "foldedtent"
FILES = sorted(PACKAGE.glob("*.py"))

NODES = set("""
Module ImportFrom alias FunctionDef arguments arg ClassDef Expr Assign If While For Return Break Continue Pass Raise
Try ExceptHandler Constant List Tuple Dict BinOp BoolOp UnaryOp Compare IfExp Call Attribute Subscript Slice Name
ListComp comprehension Load Store Add Sub Mult FloorDiv Mod BitAnd BitOr BitXor LShift RShift Invert
And Or Not USub Eq NotEq Lt LtE Gt GtE In NotIn Is IsNot Lambda keyword JoinedStr FormattedValue
""".split())
BUILT_IN = set("""
len range enumerate zip min max sum abs sorted reversed int str bool list tuple dict set frozenset isinstance ord repr
any all divmod Exception ValueError KeyError IndexError LookupError ZeroDivisionError
""".split())
METHODS = set("append copy count extend get index insert items join keys pop remove reverse values bit_length".split())
WORDS_NOT_USED = re.compile(r"\b(type|typing|enum|Enum|Generic|Protocol|ABC|namedtuple)\b|dataclass|overload")


def nodes_of(path, *kinds):
    return [node for node in ast.walk(ast.parse(path.read_text())) if isinstance(node, kinds)]


class Language(unittest.TestCase):
    def test_only_plain_files(self):
        self.assertIn("leftright.py", [path.name for path in FILES])
        for path in PACKAGE.iterdir():
            if path.name != "__pycache__":
                self.assertRegex(path.name, r"^(__init__|[a-z][a-z0-9_]*)\.py$")

    def test_signs_and_sizes(self):
        for path in FILES:
            text = path.read_bytes().decode("ascii")
            self.assertRegex(text, r"\A[ -~\n]*\Z", path.name)
            self.assertIsNone(WORDS_NOT_USED.search(text), path.name)
            lines = text.splitlines()
            self.assertLessEqual(len(lines), 399, path.name)
            self.assertLessEqual(max(map(len, lines)), 120, path.name)
            for node in nodes_of(path, ast.FunctionDef):
                self.assertLessEqual(node.end_lineno - node.lineno + 1, 40, node.name)

    def test_forms(self):
        for path in FILES:
            for node in nodes_of(path, ast.AST):
                self.assertIn(node.__class__.__name__, NODES, (path.name, getattr(node, "lineno", 0)))
            for node in nodes_of(path, ast.Assign):
                self.assertEqual(len(node.targets), 1)
            for node in nodes_of(path, ast.For, ast.While):
                self.assertEqual(node.orelse, [])
            for node in nodes_of(path, ast.FunctionDef, ast.ClassDef):
                self.assertEqual(node.decorator_list, [])

    def test_names(self):
        for path in FILES:
            for node in nodes_of(path, ast.Name):
                self.assertFalse(node.id.startswith("_"), node.id)
                if hasattr(builtins, node.id):
                    self.assertIn(node.id, BUILT_IN)
                    self.assertIsInstance(node.ctx, ast.Load)
            for node in nodes_of(path, ast.arg):
                self.assertFalse(hasattr(builtins, node.arg), node.arg)
            for node in nodes_of(path, ast.Call):
                if isinstance(node.func, ast.Attribute):
                    self.assertIn(node.func.attr, METHODS)

    def test_values(self):
        for path in FILES:
            for node in nodes_of(path, ast.Constant):
                self.assertIn(node.value.__class__, (int, str, bool, None.__class__), (path.name, node.lineno))
            for node in nodes_of(path, ast.Compare):
                if any(isinstance(each, (ast.Is, ast.IsNot)) for each in node.ops):
                    self.assertEqual([each.value for each in node.comparators], [None], (path.name, node.lineno))
            for node in nodes_of(path, ast.comprehension):
                self.assertLessEqual(len(node.ifs), 1)
            for node in nodes_of(path, ast.ListComp):
                self.assertEqual(len(node.generators), 1)

    def test_each_name_once(self):
        for path in FILES:
            bound = []
            for node in ast.parse(path.read_text()).body:
                if isinstance(node, ast.ImportFrom):
                    bound.extend([each.asname or each.name for each in node.names])
                elif isinstance(node, ast.Assign):
                    bound.append(node.targets[0].id)
                elif not isinstance(node, ast.Expr):
                    bound.append(node.name)
            self.assertEqual(sorted(bound), sorted(set(bound)), path.name)
            local = [node.arg for node in nodes_of(path, ast.arg)]
            for function in nodes_of(path, ast.FunctionDef):
                local.extend([node.id for node in ast.walk(function)
                              if isinstance(node, ast.Name) and isinstance(node.ctx, ast.Store)])
            self.assertEqual(set(local) & set(bound), set(), path.name)

    def test_imports(self):
        tops = {}
        for path in FILES:
            body = ast.parse(path.read_text()).body
            tops["foldedtent." + path.stem] = {node.name for node in body if hasattr(node, "name")} | {
                node.targets[0].id for node in body if isinstance(node, ast.Assign)}
        for path in FILES:
            for node in nodes_of(path, ast.ImportFrom):
                self.assertIn(node.module, tops)
                for each in node.names:
                    self.assertIn(each.name, tops[node.module])
        self.assertEqual([name for name in tops if "answers" in tops[name]], ["foldedtent.leftright"])
        self.assertEqual(tops["foldedtent.__init__"], set())
