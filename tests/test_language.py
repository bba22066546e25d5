"""The package's files beside those rules of the language that a glance can miss."""

import ast
import re
import unittest
from pathlib import Path

PACKAGE = Path(__file__).resolve().parent.parent / "closedqueues"
FILES = sorted(PACKAGE.glob("*.py"))
BUILTINS = set("""len range enumerate zip min max sum abs sorted reversed int str bool list tuple
    dict set frozenset isinstance ord repr any all divmod Exception ValueError TypeError KeyError
    IndexError LookupError ZeroDivisionError ArithmeticError OverflowError RuntimeError
    NotImplementedError""".split())
SHADOWED = set(dir(__builtins__) if not isinstance(__builtins__, dict) else __builtins__)
WORDS = re.compile(r"\b(type|typing|typing_extensions|enum|Enum|IntEnum|StrEnum|Flag|IntFlag|Generic"
                   r"|Protocol|ABC|ABCMeta|namedtuple|NamedTuple|TypedDict|TYPE_CHECKING"
                   r"|abstractmethod)\b|dataclass|overload|contextmanager")
NODES = (ast.With, ast.Delete, ast.Global, ast.Nonlocal, ast.Assert, ast.Yield, ast.YieldFrom,
         ast.Await, ast.AsyncFor, ast.AsyncWith, ast.AsyncFunctionDef, ast.GeneratorExp,
         ast.SetComp, ast.DictComp, ast.NamedExpr, ast.Starred, ast.Div, ast.Import, ast.AnnAssign)


def trees():
    for path in FILES:
        text = path.read_text(encoding="utf-8")
        yield path, text, ast.parse(text)


def exponent_is_written(exponent):
    return (isinstance(exponent, ast.Constant) and type(exponent.value) is int
            and 0 <= exponent.value <= 64)


def unwritten_powers(tree):
    """The rows with a power whose exponent is not a written number from 0 to 64."""
    rows = []
    for node in ast.walk(tree):
        if isinstance(node, (ast.BinOp, ast.AugAssign)) and isinstance(node.op, ast.Pow):
            exponent = node.right if isinstance(node, ast.BinOp) else node.value
            if not exponent_is_written(exponent):
                rows.append(node.lineno)
    return rows


def bound_names(tree):
    for node in ast.walk(tree):
        if isinstance(node, (ast.FunctionDef, ast.ClassDef)):
            yield node.name
        elif isinstance(node, ast.Name) and isinstance(node.ctx, ast.Store):
            yield node.id
        elif isinstance(node, ast.arg):
            yield node.arg
        elif isinstance(node, ast.ExceptHandler) and node.name:
            yield node.name
        elif isinstance(node, ast.ImportFrom):
            yield from [alias.name for alias in node.names]


class Language(unittest.TestCase):
    def test_the_folder_holds_modules_alone(self):
        others = [path.name for path in PACKAGE.iterdir()
                  if path.suffix != ".py" and path.name != "__pycache__"]
        self.assertEqual(others, [])
        self.assertTrue((PACKAGE / "__init__.py").is_file())

    def test_sizes_and_signs(self):
        for path, text, tree in trees():
            lines = text.splitlines()
            self.assertLessEqual(len(lines), 399, path)
            self.assertLessEqual(max(len(line) for line in lines), 120, path)
            self.assertIsNone(re.search(r"[^\n -~]", text), path)
            for node in ast.walk(tree):
                if isinstance(node, ast.FunctionDef):
                    self.assertLessEqual(node.end_lineno - node.lineno + 1, 40, node.name)

    def test_words_that_stand_nowhere(self):
        for path, text, tree in trees():
            self.assertIsNone(WORDS.search(text), path)

    def test_only_the_allowed_forms(self):
        for path, text, tree in trees():
            for node in ast.walk(tree):
                where = f"{path.name}:{getattr(node, 'lineno', 0)}"
                self.assertNotIsInstance(node, NODES, where)
                if isinstance(node, ast.Constant):
                    self.assertNotIsInstance(node.value, (float, complex, bytes), where)
                if isinstance(node, ast.Assign):
                    self.assertEqual(len(node.targets), 1, where)
                if isinstance(node, (ast.For, ast.While)):
                    self.assertEqual(node.orelse, [], where)
                if isinstance(node, (ast.FunctionDef, ast.ClassDef)):
                    self.assertEqual(node.decorator_list, [], where)

    def test_exponents_are_written_out(self):
        for path, text, tree in trees():
            self.assertEqual(unwritten_powers(tree), [], path)

    def test_unwritten_exponents_are_found(self):
        for text in ("x ** n", "x ** 65", "x ** -1", "x ** (1 + 1)", "x **= n", "y = 3 * x ** len(xs)"):
            self.assertEqual(unwritten_powers(ast.parse(text)), [1], text)
        for text in ("x ** 0", "x ** 64", "x **= 2", "x * n"):
            self.assertEqual(unwritten_powers(ast.parse(text)), [], text)

    def test_imports_are_the_packages_own(self):
        for path, text, tree in trees():
            for node in ast.walk(tree):
                if isinstance(node, ast.ImportFrom):
                    self.assertEqual(node.level, 0, path)
                    self.assertTrue(node.module.startswith("closedqueues."), path)
                    self.assertIn(node, tree.body, path)

    def test_names(self):
        for path, text, tree in trees():
            bound = set(bound_names(tree))
            for name in sorted(bound - {"__init__"}):
                self.assertRegex(name, r"^[A-Za-z][A-Za-z0-9_]*$", path)
                self.assertNotIn(name, SHADOWED, path)
            for node in ast.walk(tree):
                if isinstance(node, ast.Name) and isinstance(node.ctx, ast.Load):
                    self.assertIn(node.id, bound | BUILTINS, path)

    def test_no_local_is_called_like_an_import_or_a_class(self):
        for path, text, tree in trees():
            top = set()
            for node in tree.body:
                if isinstance(node, ast.ImportFrom):
                    top.update(alias.name for alias in node.names)
                if isinstance(node, ast.ClassDef):
                    top.add(node.name)
            for node in ast.walk(tree):
                if isinstance(node, ast.FunctionDef):
                    self.assertEqual(top & (set(bound_names(node)) - {node.name}), set(), path)


if __name__ == "__main__":
    unittest.main()
