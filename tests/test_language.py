"""The part of Python that the package keeps to, as far as it can be counted."""

import ast
import pathlib
import re
import unittest

PACKAGE = pathlib.Path(__file__).resolve().parent.parent / "restsquares"
ALLOWED_NAMES = set(
    "len range enumerate zip min max sum abs sorted reversed int str bool list tuple dict set frozenset isinstance "
    "ord repr any all divmod Exception ValueError TypeError KeyError IndexError LookupError ZeroDivisionError "
    "ArithmeticError OverflowError RuntimeError NotImplementedError AttributeError StopIteration".split()
)
PYTHONS_OWN = set(dir(__builtins__) if not isinstance(__builtins__, dict) else __builtins__)
METHODS = {
    "append", "clear", "copy", "count", "extend", "get", "index", "insert", "items", "join", "keys", "pop", "remove",
    "reverse", "setdefault", "update", "values",
}
RULED_OUT = (
    ast.With, ast.Match, ast.Delete, ast.Global, ast.Nonlocal, ast.Assert, ast.Yield, ast.YieldFrom, ast.AsyncFor,
    ast.AsyncFunctionDef, ast.AsyncWith, ast.Await, ast.Import, ast.SetComp, ast.DictComp, ast.GeneratorExp,
    ast.NamedExpr, ast.Starred, ast.Div, ast.MatMult, ast.AnnAssign, ast.Set,
)
WORDS = re.compile(
    r"\b(type|typing|typing_extensions|enum|Enum|IntEnum|StrEnum|Flag|IntFlag|Generic|Protocol|ABC|ABCMeta|namedtuple"
    r"|NamedTuple|TypedDict|TYPE_CHECKING|abstractmethod)\b|dataclass|overload|contextmanager"
)


def files():
    return sorted(path for path in PACKAGE.iterdir() if path.name != "__pycache__")


def nodes():
    for path in files():
        for node in ast.walk(ast.parse(path.read_text())):
            yield path.name, node


class Language(unittest.TestCase):
    def test_only_plain_files(self):
        self.assertIn("__init__.py", [path.name for path in files()])
        for path in files():
            self.assertRegex(path.name, r"^[a-z0-9_]+\.py$")

    def test_lines(self):
        for path in files():
            text = path.read_text()
            self.assertRegex(text, r"\A[ -~\n]*\Z", path.name)
            self.assertIsNone(WORDS.search(text), path.name)
            self.assertLessEqual(len(text.splitlines()), 400, path.name)
            self.assertLessEqual(max(map(len, text.splitlines())), 120, path.name)

    def test_functions_are_short_and_plain(self):
        for name, node in nodes():
            if isinstance(node, ast.FunctionDef):
                place = (name, node.name)
                self.assertLessEqual(node.end_lineno - node.lineno + 1, 40, place)
                self.assertEqual(node.decorator_list, [], place)
                told = node.args
                self.assertFalse(told.vararg or told.kwarg or told.kwonlyargs or told.posonlyargs, place)

    def test_nothing_that_is_ruled_out(self):
        for name, node in nodes():
            place = (name, getattr(node, "lineno", 0))
            self.assertNotIsInstance(node, RULED_OUT, place)
            if isinstance(node, ast.Assign):
                self.assertEqual(len(node.targets), 1, place)
                self.assertNotIsInstance(node.targets[0], ast.Tuple, place)
            if isinstance(node, ast.Constant):
                self.assertNotIsInstance(node.value, (float, bytes, complex), place)
            if isinstance(node, ast.ImportFrom):
                self.assertRegex(node.module, r"^restsquares\.", place)
                self.assertEqual(node.level, 0, place)

    def test_names(self):
        for name, node in nodes():
            place = (name, getattr(node, "lineno", 0))
            if isinstance(node, ast.Name):
                self.assertRegex(node.id, r"^[A-Za-z]", place)
                if node.id in PYTHONS_OWN:
                    self.assertIn(node.id, ALLOWED_NAMES, place)
                    self.assertIsInstance(node.ctx, ast.Load, place)
            bound = getattr(node, "name", None) or getattr(node, "arg", None)
            if isinstance(node, (ast.FunctionDef, ast.ClassDef, ast.arg)):
                self.assertNotIn(bound, PYTHONS_OWN, place)
            if isinstance(node, ast.Call) and isinstance(node.func, ast.Attribute):
                self.assertIn(node.func.attr, METHODS, place)


if __name__ == "__main__":
    unittest.main()
