"""The interface as it stands in the document, and the form of the package's own files."""

import ast
import inspect
import pathlib
import re
import unittest

from rootlength import lengths

PACKAGE = pathlib.Path(lengths.__file__).parent
README = PACKAGE.parent / "README.md"
CALLS = {"length", "compare", "beyond", "sticks", "floor", "order", "kind"}
SOURCES = {path.name: path.read_text(encoding="utf-8") for path in sorted(PACKAGE.glob("*.py"))}

CALLABLE = {"len", "range", "enumerate", "zip", "min", "max", "sum", "abs", "sorted", "reversed", "int", "str", "bool",
            "list", "tuple", "dict", "isinstance", "ord", "repr", "any", "all", "divmod"}
METHODS = {"append", "extend", "get", "items", "pop", "bit_length", "copy", "keys", "values", "join", "index"}
NODES = (ast.Module, ast.FunctionDef, ast.arguments, ast.arg, ast.Expr, ast.Constant, ast.ImportFrom, ast.alias,
         ast.Assign, ast.AugAssign, ast.If, ast.IfExp, ast.While, ast.For, ast.Return, ast.Break, ast.Continue, ast.Pass,
         ast.Name, ast.Load, ast.Store, ast.BinOp, ast.operator, ast.UnaryOp, ast.unaryop, ast.BoolOp, ast.boolop,
         ast.Compare, ast.cmpop, ast.Call, ast.keyword, ast.Attribute, ast.Subscript, ast.Slice, ast.List, ast.Tuple,
         ast.Dict, ast.ListComp, ast.comprehension)
WORDS = re.compile(r"\b(type|typing|enum|Enum|Flag|Generic|Protocol|ABC|namedtuple)\b|dataclass|overload|contextmanager")


class Interface(unittest.TestCase):
    def test_names_and_order_of_arguments(self):
        self.assertEqual(list(inspect.signature(lengths.length).parameters), ["a", "k", "t"])
        self.assertEqual(list(inspect.signature(lengths.compare).parameters), ["a", "b", "t"])
        self.assertEqual(list(inspect.signature(lengths.beyond).parameters), ["a", "c", "d", "t"])
        self.assertEqual(list(inspect.signature(lengths.sticks).parameters), ["a", "d", "t"])
        self.assertEqual(list(inspect.signature(lengths.floor).parameters), ["k", "u"])
        self.assertEqual(list(inspect.signature(lengths.order).parameters), ["u", "v"])
        self.assertEqual(list(inspect.signature(lengths.kind).parameters), ["n"])

    def test_by_name(self):
        t = list(b"sign A\nstroke 0,0 3,4\n")
        self.assertEqual(lengths.length(a=1, k=2, t=t), [0, 500])
        self.assertEqual(lengths.compare(a=0, b=1, t=t), [1])
        self.assertEqual(lengths.beyond(a=1, c=9, d=2, t=t), [1])
        self.assertEqual(lengths.sticks(a=1, d=2, t=t), [0, 3])
        self.assertEqual(lengths.floor(k=1, u=[2, 9]), [0, 44])
        self.assertEqual(lengths.order(u=[2], v=[3]), [1])
        self.assertEqual(lengths.kind(n=12), [0, 3, 2])


class Readme(unittest.TestCase):
    def test_examples(self):
        block = README.read_text(encoding="utf-8").split("```python\n")[1].split("```")[0]
        names = {}
        tried = set()
        for row in block.splitlines():
            if "  # [" not in row:
                exec(row, names)
                continue
            asked = row.split("# ")[1].split("]")[0] + "]"
            self.assertEqual(repr(eval(row, names)), asked, row)
            tried.add(row.split("(")[0])
        self.assertEqual(tried, CALLS)


class Files(unittest.TestCase):
    def test_only_plain_files(self):
        names = [path.name for path in PACKAGE.iterdir() if path.name != "__pycache__"]
        self.assertEqual(sorted(names), sorted(SOURCES))
        self.assertIn("__init__.py", SOURCES)

    def test_rows(self):
        for name, source in SOURCES.items():
            rows = source.split("\n")
            self.assertLessEqual(len(rows), 400, name)
            for row in rows:
                self.assertLessEqual(len(row), 120, row)
                self.assertTrue(all(" " <= sign <= "~" for sign in row), row)
            self.assertIsNone(WORDS.search(source), name)

    def test_imports_are_the_package_s_own(self):
        for name, source in SOURCES.items():
            for node in ast.walk(ast.parse(source)):
                self.assertNotIsInstance(node, ast.Import, name)
                if isinstance(node, ast.ImportFrom):
                    self.assertTrue(node.level == 0 and node.module.startswith("rootlength."), name)

    def test_part_of_the_language(self):
        for name, source in SOURCES.items():
            tree = ast.parse(source)
            own = {node.name for node in ast.walk(tree) if isinstance(node, ast.FunctionDef)}
            own |= {alias.name for node in ast.walk(tree) if isinstance(node, ast.ImportFrom) for alias in node.names}
            for node in ast.walk(tree):
                where = (name, getattr(node, "lineno", 0))
                self.assertIsInstance(node, NODES, where)
                self.assertNotIsInstance(node, (ast.Div, ast.Pow), where)
                if isinstance(node, ast.Compare) and isinstance(node.ops[0], (ast.Is, ast.IsNot)):
                    self.assertIn(ast.unparse(node.comparators[0]), ("None", "True", "False"), where)
                if isinstance(node, ast.Call) and isinstance(node.func, ast.Name):
                    self.assertIn(node.func.id, CALLABLE | own, where)
                elif isinstance(node, ast.Call):
                    self.assertIn(node.func.attr, METHODS, where)
                if isinstance(node, ast.FunctionDef):
                    self.assertLessEqual(node.end_lineno - node.lineno + 1, 40, where)
                    self.assertIsNotNone(ast.get_docstring(node), where)


if __name__ == "__main__":
    unittest.main()
