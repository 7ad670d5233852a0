"""The form of the package's files: a small part of Python, without clock, chance or files."""

import ast
import pathlib
import re
import unittest

PACKAGE = pathlib.Path(__file__).resolve().parent.parent / "twinriddles"

OUT = (
    ast.GeneratorExp, ast.NamedExpr, ast.With, ast.Yield, ast.YieldFrom, ast.Global, ast.Nonlocal, ast.Match,
    ast.Import, ast.AsyncFunctionDef, ast.Await, ast.Div, ast.Starred,
)

BUILTINS = set(
    "len range enumerate zip min max sum abs sorted reversed int str bool bytes list tuple dict set isinstance "
    "ord repr any all divmod Exception ValueError KeyError IndexError LookupError".split())

WORDS_OUT = re.compile(
    r"\b(type|typing|typing_extensions|enum|Enum|IntEnum|StrEnum|Flag|IntFlag|Generic|Protocol|ABC|ABCMeta|"
    r"namedtuple|NamedTuple|TypedDict|TYPE_CHECKING|abstractmethod)\b|dataclass|overload|contextmanager")


METHODS = set(
    "append clear copy count endswith extend find get index insert isalnum isalpha isdigit islower isspace isupper "
    "items join keys ljust lower lstrip partition pop remove replace reverse rfind rjust rpartition rsplit rstrip "
    "setdefault split splitlines startswith strip update upper values zfill bit_length add discard".split())


def bound_names(tree):
    found = set()
    for node in ast.walk(tree):
        if isinstance(node, (ast.FunctionDef, ast.ClassDef)):
            found.add(node.name)
        elif isinstance(node, ast.arg):
            found.add(node.arg)
        elif isinstance(node, ast.Name) and not isinstance(node.ctx, ast.Load):
            found.add(node.id)
        elif isinstance(node, ast.alias):
            found.add(node.asname or node.name)
        elif isinstance(node, ast.ExceptHandler) and node.name:
            found.add(node.name)
    return found


class Form(unittest.TestCase):
    def files(self):
        for path in sorted(PACKAGE.glob("*.py")):
            text = path.read_text(encoding="utf-8")
            with self.subTest(file=path.name):
                yield path, text, ast.parse(text)

    def test_nothing_else_lies_in_the_package(self):
        others = [path.name for path in PACKAGE.iterdir() if path.suffix != ".py" and path.name != "__pycache__"]
        self.assertEqual(others, [])

    def test_signs_and_sizes(self):
        for path, text, tree in self.files():
            self.assertIsNone(re.search(r"[^ -~\n]", text))
            self.assertIsNone(WORDS_OUT.search(text))
            rows = text.split("\n")
            self.assertLessEqual(len(rows), 400)
            self.assertLessEqual(max(map(len, rows)), 120)
            for node in ast.walk(tree):
                if isinstance(node, ast.FunctionDef):
                    self.assertLessEqual(node.end_lineno - node.lineno + 1, 40, node.name)

    def test_only_own_modules_are_drawn(self):
        for path, text, tree in self.files():
            for node in ast.walk(tree):
                if isinstance(node, ast.ImportFrom):
                    self.assertEqual(node.level, 0)
                    self.assertTrue(node.module.startswith("twinriddles."), node.module)
                    self.assertIn(node, tree.body)

    def test_only_plain_statements(self):
        for path, text, tree in self.files():
            for node in ast.walk(tree):
                self.assertNotIsInstance(node, OUT)
                if isinstance(node, (ast.FunctionDef, ast.ClassDef)):
                    self.assertEqual(node.decorator_list, [])
                if isinstance(node, ast.Constant):
                    self.assertNotIsInstance(node.value, (float, complex))
                if isinstance(node, ast.Compare):
                    sides = [node.left] + node.comparators
                    for at, sign in enumerate(node.ops):
                        if isinstance(sign, (ast.Is, ast.IsNot)):
                            self.assertIsInstance(sides[at + 1], ast.Constant)

    def test_only_plain_names(self):
        for path, text, tree in self.files():
            bound = bound_names(tree)
            for name in bound:
                self.assertRegex(name, r"\A([A-Za-z][A-Za-z0-9_]*|__init__)\Z")
                self.assertNotIn(name, dir(__builtins__) if not isinstance(__builtins__, dict) else __builtins__)
            for node in ast.walk(tree):
                if isinstance(node, ast.Name) and node.id not in bound:
                    self.assertIn(node.id, BUILTINS)

    def test_only_plain_methods_and_values(self):
        for path, text, tree in self.files():
            own = {node.name for node in ast.walk(tree) if isinstance(node, ast.FunctionDef)}
            own |= {node.attr for node in ast.walk(tree)
                    if isinstance(node, ast.Attribute) and isinstance(node.ctx, ast.Store)}
            for node in ast.walk(tree):
                if isinstance(node, ast.Attribute):
                    self.assertIn(node.attr, METHODS | own)
                    self.assertNotRegex(node.attr, r"\A__")
                if isinstance(node, ast.ClassDef):
                    self.assertLessEqual(len(node.bases), 1)
                    for row in node.body:
                        self.assertTrue(isinstance(row, ast.FunctionDef) or ast.get_docstring(node), node.name)
                        self.assertNotIsInstance(row, (ast.Assign, ast.AnnAssign))

    def test_only_plain_texts(self):
        for path, text, tree in self.files():
            self.assertNotIn("%", text)
            for node in ast.walk(tree):
                if isinstance(node, ast.FormattedValue):
                    self.assertIsNone(node.format_spec)

    def test_only_plain_values_at_the_top(self):
        for path, text, tree in self.files():
            for row in tree.body:
                if isinstance(row, ast.Assign):
                    for node in ast.walk(row.value):
                        self.assertIsInstance(node, (ast.Constant, ast.Dict, ast.Tuple, ast.Name, ast.Load))
                        self.assertTrue(node is row.value or not isinstance(node, ast.Dict))
                else:
                    plain = (ast.ImportFrom, ast.FunctionDef, ast.ClassDef)
                    self.assertTrue(isinstance(row, plain) or row is tree.body[0])


if __name__ == "__main__":
    unittest.main()
