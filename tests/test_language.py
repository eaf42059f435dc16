"""Some rules of LANGUAGE.md that can be seen in the files of the package."""

import ast
import builtins
import pathlib
import re
import unittest

PACKAGE = pathlib.Path(__file__).resolve().parent.parent / "everalike"

BUILTINS = set(
    "len range enumerate zip min max sum abs sorted reversed int str bool bytes list tuple dict set frozenset "
    "isinstance ord repr any all divmod super property staticmethod classmethod Exception ValueError TypeError "
    "KeyError IndexError LookupError ZeroDivisionError ArithmeticError OverflowError RuntimeError "
    "NotImplementedError AttributeError StopIteration".split()
)
SPECIAL = set("__init__ __eq__ __repr__ __str__ __len__ __enter__ __exit__".split())
BARRED_WORDS = re.compile(
    r"\b(type|typing|typing_extensions|enum|Enum|IntEnum|StrEnum|Flag|IntFlag|Generic|Protocol|ABC|ABCMeta|namedtuple"
    r"|NamedTuple|TypedDict|TYPE_CHECKING|abstractmethod)\b|dataclass|overload|contextmanager"
)
BARRED_NODES = (
    ast.Global, ast.Import, ast.AsyncFunctionDef, ast.Await, ast.AsyncFor, ast.AsyncWith, ast.NamedExpr, ast.Div,
    ast.MatMult,
)


def files():
    return sorted(path for path in PACKAGE.rglob("*") if path.is_file() and "__pycache__" not in path.parts)


class Language(unittest.TestCase):

    def nodes(self):
        for path in files():
            for node in ast.walk(ast.parse(path.read_text(encoding="ascii"))):
                yield f"{path.name}:{getattr(node, 'lineno', 0)}", node

    def test_files(self):
        self.assertTrue(files())
        for path in files():
            self.assertRegex(path.name, r"^([a-z][a-z0-9_]*|__init__|__main__)\.py$")

    def test_lines_and_signs(self):
        for path in files():
            text = path.read_text(encoding="utf-8")
            self.assertLessEqual(len(text.splitlines()), 400, path.name)
            for number, line in enumerate(text.split("\n"), start=1):
                self.assertRegex(line, r"^[ -~]{0,120}$", f"{path.name}:{number}")
                self.assertNotRegex(line, BARRED_WORDS, f"{path.name}:{number}")

    def test_statements(self):
        for place, node in self.nodes():
            self.assertNotIsInstance(node, BARRED_NODES, place)
            if isinstance(node, ast.ImportFrom):
                self.assertEqual(node.level, 0, place)
                self.assertRegex(node.module, r"^everalike\.[a-z_]+$", place)
                self.assertNotIn("*", [name.name for name in node.names], place)
            if isinstance(node, ast.FunctionDef):
                self.assertLessEqual(node.end_lineno - node.lineno + 1, 40, place)
            if isinstance(node, ast.Constant):
                self.assertNotIsInstance(node.value, (float, complex), place)

    def test_names(self):
        for place, node in self.nodes():
            if isinstance(node, ast.Name):
                self.assertRegex(node.id, r"^[A-Za-z]", place)
                if hasattr(builtins, node.id):
                    self.assertIn(node.id, BUILTINS, place)
                    self.assertIsInstance(node.ctx, ast.Load, place)
            elif isinstance(node, ast.arg):
                self.assertRegex(node.arg, r"^[A-Za-z]", place)
                self.assertFalse(hasattr(builtins, node.arg), place)
            elif isinstance(node, ast.FunctionDef) and node.name not in SPECIAL:
                self.assertRegex(node.name, r"^[A-Za-z]", place)


if __name__ == "__main__":
    unittest.main()
