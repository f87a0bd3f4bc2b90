"""The part of the language that the package keeps to, as far as a look at its files can tell."""

import ast
import builtins
import pathlib
import re
import unittest

PACKAGE = pathlib.Path(__file__).resolve().parent.parent / "lookafter"
FILES = sorted(PACKAGE.rglob("*.py"))

NODES = """Module ClassDef FunctionDef arguments arg Return Assign AugAssign For While If Raise Try ExceptHandler Expr
Pass Break Continue BoolOp BinOp UnaryOp IfExp Lambda Dict List Tuple ListComp comprehension Compare Call keyword
Constant Attribute Subscript Slice Name Load Store And Or Add Sub Mult FloorDiv Mod Pow LShift RShift BitOr BitXor BitAnd
Invert Not UAdd USub Eq NotEq Lt LtE Gt GtE Is IsNot In NotIn ImportFrom alias JoinedStr FormattedValue""".split()
OWN_NAMES = """len range enumerate zip min max sum abs sorted reversed int str bool list tuple dict set frozenset isinstance
ord repr any all divmod Exception ValueError TypeError KeyError IndexError LookupError ZeroDivisionError ArithmeticError
OverflowError RuntimeError NotImplementedError AttributeError StopIteration""".split()
WORDS = """type typing typing_extensions enum Enum IntEnum StrEnum Flag IntFlag Generic Protocol ABC ABCMeta namedtuple
NamedTuple TypedDict TYPE_CHECKING abstractmethod register mro elements open input version_info""".split()
DUNDERS = ("__init__", "__eq__", "__repr__", "__str__", "__len__")


class Language(unittest.TestCase):
    def walked(self):
        for path in FILES:
            for node in ast.walk(ast.parse(path.read_text())):
                yield f"{path.name}:{getattr(node, 'lineno', 0)}", node

    def test_files(self):
        self.assertIn(PACKAGE / "keepers.py", FILES)
        for path in PACKAGE.rglob("*"):
            if path.is_file() and path.parent.name != "__pycache__":
                self.assertRegex(path.name, r"^[a-z0-9_]+\.py$")

    def test_signs_and_size(self):
        for path in FILES:
            rows = path.read_text().split("\n")
            self.assertLessEqual(len(rows), 401, path.name)
            for place, row in enumerate(rows):
                self.assertRegex(row, r"^[ -~]{0,120}$", f"{path.name}:{place + 1}")

    def test_words_that_stand_nowhere(self):
        for path in FILES:
            found = set(re.findall(r"[A-Za-z_]\w*", path.read_text())) & set(WORDS)
            self.assertEqual(found, set(), path.name)
            self.assertNotRegex(path.read_text(), "dataclass|overload|contextmanager")

    def test_statements_and_values(self):
        for where, node in self.walked():
            self.assertIn(type(node).__name__, NODES, where)
            if isinstance(node, ast.Constant):
                self.assertIn(type(node.value), (int, str, bool, type(None)), where)
            if isinstance(node, ast.Assign):
                self.assertEqual(len(node.targets), 1, where)
            if isinstance(node, (ast.For, ast.While)):
                self.assertEqual(node.orelse, [], where)
            if isinstance(node, ast.ImportFrom):
                self.assertTrue(node.level == 0 and node.module.startswith("lookafter."), where)
            if isinstance(node, ast.Compare) and any(isinstance(op, (ast.Is, ast.IsNot)) for op in node.ops):
                self.assertIn(node.comparators[0].value, (None, True, False), where)

    def test_functions(self):
        for where, node in self.walked():
            if isinstance(node, (ast.FunctionDef, ast.ClassDef)):
                self.assertEqual(node.decorator_list, [], where)
            if isinstance(node, ast.FunctionDef):
                self.assertLessEqual(node.end_lineno - node.lineno + 1, 40, where)
                told = node.args
                self.assertFalse(told.vararg or told.kwarg or told.kwonlyargs or told.posonlyargs, where)

    def test_names(self):
        for where, node in self.walked():
            name = {ast.Name: "id", ast.arg: "arg", ast.Attribute: "attr", ast.FunctionDef: "name",
                    ast.ClassDef: "name"}.get(type(node))
            if name:
                name = getattr(node, name)
                self.assertTrue(name in DUNDERS or re.fullmatch("[A-Za-z][A-Za-z0-9_]*", name), where)
                if not isinstance(node, ast.Attribute) and name in vars(builtins):
                    self.assertIn(name, OWN_NAMES, where)
                    self.assertTrue(isinstance(node, ast.Name) and isinstance(node.ctx, ast.Load), where)

    def test_each_name_of_a_files_top_is_bound_once(self):
        for path in FILES:
            names = []
            for node in ast.parse(path.read_text()).body:
                if isinstance(node, ast.Assign):
                    ast.literal_eval(node.value)
                    names.append(node.targets[0].id)
                elif isinstance(node, (ast.FunctionDef, ast.ClassDef)):
                    names.append(node.name)
            self.assertEqual(sorted(set(names)), sorted(names), path.name)


if __name__ == "__main__":
    unittest.main()
