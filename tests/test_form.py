"""The form of the package's files, as far as a plain look can tell: the language the program keeps to."""

import ast
import builtins
import re
import unittest
from pathlib import Path

PACKAGE = Path(__file__).resolve().parent.parent / "lonestations"

STATEMENTS = (
    ast.Assign, ast.AugAssign, ast.If, ast.While, ast.For, ast.Return, ast.Break, ast.Continue, ast.Pass,
    ast.Raise, ast.Try, ast.Expr, ast.FunctionDef, ast.ClassDef, ast.ImportFrom,
)
NOT_USED = (
    ast.Div, ast.Starred, ast.SetComp, ast.DictComp, ast.GeneratorExp, ast.NamedExpr, ast.Await, ast.MatMult,
    ast.AnnAssign, ast.Set,
)
OWN_NAMES = set(
    "len range enumerate zip min max sum abs sorted reversed int str bool list tuple dict set frozenset isinstance"
    " ord repr any all divmod Exception ValueError TypeError KeyError IndexError LookupError ZeroDivisionError"
    " ArithmeticError OverflowError RuntimeError NotImplementedError AttributeError StopIteration".split()
)
WORDS_LEFT_OUT = re.compile(
    r"\b(type|typing|typing_extensions|enum|Enum|IntEnum|StrEnum|Flag|IntFlag|Generic|Protocol|ABC|ABCMeta"
    r"|namedtuple|NamedTuple|TypedDict|TYPE_CHECKING|abstractmethod)\b|dataclass|overload|contextmanager"
)


def files():
    """Give back the package's files by name, each with its text."""
    return {path.name: path.read_text(encoding="ascii") for path in sorted(PACKAGE.glob("*.py"))}


class Form(unittest.TestCase):
    def nodes(self):
        for name, text in files().items():
            for node in ast.walk(ast.parse(text)):
                yield name, node

    def where(self, name, node):
        return f"{name}, line {getattr(node, 'lineno', 0)}"

    def test_folder(self):
        found = [path.name for path in PACKAGE.iterdir() if path.name != "__pycache__"]
        for name in found:
            self.assertRegex(name, r"\A([a-z][a-z0-9_]*|__init__)\.py\Z")
        self.assertIn("__init__.py", found)
        self.assertIn("desk.py", found)

    def test_rows(self):
        for name, text in files().items():
            self.assertRegex(text, r"\A[\n -~]*\n\Z", name)
            rows = text.splitlines()
            self.assertLessEqual(len(rows), 399, name)
            self.assertLessEqual(max(len(row) for row in rows), 120, name)
            self.assertIsNone(WORDS_LEFT_OUT.search(text), name)

    def test_functions_are_small(self):
        for name, node in self.nodes():
            if isinstance(node, ast.FunctionDef):
                self.assertLessEqual(node.end_lineno - node.lineno + 1, 40, self.where(name, node))
                given = node.args
                self.assertFalse(node.decorator_list or given.vararg or given.kwarg or given.kwonlyargs)

    def test_statements(self):
        for name, node in self.nodes():
            if isinstance(node, ast.stmt):
                self.assertIsInstance(node, STATEMENTS, self.where(name, node))
            self.assertNotIsInstance(node, NOT_USED, self.where(name, node))
            if isinstance(node, ast.Assign):
                self.assertEqual(len(node.targets), 1, self.where(name, node))
            if isinstance(node, (ast.For, ast.While)):
                self.assertEqual(node.orelse, [], self.where(name, node))
            if isinstance(node, ast.Constant):
                self.assertIsInstance(node.value, (int, str, type(None)), self.where(name, node))
            if isinstance(node, ast.Expr):
                self.assertIsInstance(node.value, (ast.Call, ast.Constant), self.where(name, node))

    def test_imports(self):
        for name, node in self.nodes():
            if isinstance(node, ast.ImportFrom):
                self.assertEqual(node.level, 0, self.where(name, node))
                self.assertRegex(node.module, r"\Alonestations\.\w+\Z", self.where(name, node))
                source = ast.parse(files()[node.module.partition(".")[2] + ".py"])
                bound = {made.name for made in source.body if isinstance(made, (ast.FunctionDef, ast.ClassDef))}
                bound |= {made.targets[0].id for made in source.body if isinstance(made, ast.Assign)}
                self.assertLessEqual({drawn.name for drawn in node.names}, bound, self.where(name, node))

    def test_names(self):
        for name, node in self.nodes():
            if isinstance(node, ast.Name):
                self.assertRegex(node.id, r"\A[A-Za-z][A-Za-z0-9_]*\Z", self.where(name, node))
                if isinstance(node.ctx, ast.Store):
                    self.assertFalse(hasattr(builtins, node.id), self.where(name, node))
                elif hasattr(builtins, node.id):
                    self.assertIn(node.id, OWN_NAMES, self.where(name, node))
            if isinstance(node, ast.arg):
                self.assertFalse(hasattr(builtins, node.arg), self.where(name, node))

    def test_the_interface_stands_in_its_file(self):
        for name, text in files().items():
            made = {node.name: node for node in ast.parse(text).body if isinstance(node, ast.FunctionDef)}
            self.assertEqual("answers" in made, name == "desk.py", name)
            if name == "desk.py":
                self.assertEqual([given.arg for given in made["answers"].args.args], ["calls"])
                self.assertEqual(made["answers"].args.defaults, [])


if __name__ == "__main__":
    unittest.main()
