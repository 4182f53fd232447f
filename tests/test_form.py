"""What of the package's form can be told by a look at its files."""

import ast
import builtins
import re
import unittest
from pathlib import Path

PACKAGE = Path(__file__).resolve().parent.parent / "minders"
FILES = sorted(PACKAGE.glob("*.py"))

OWN_NAMES = set("""
len range enumerate zip min max sum abs sorted reversed int str bool list tuple dict set frozenset isinstance ord
repr any all divmod Exception ValueError TypeError KeyError IndexError LookupError ZeroDivisionError
ArithmeticError OverflowError RuntimeError NotImplementedError AttributeError StopIteration
""".split())

WORDS = re.compile(r"\b(type|typing|typing_extensions|enum|Enum|IntEnum|StrEnum|Flag|IntFlag|Generic|Protocol|ABC|"
                   r"ABCMeta|namedtuple|NamedTuple|TypedDict|TYPE_CHECKING|abstractmethod)\b|"
                   r"dataclass|overload|contextmanager")

NOT_USED = (ast.Import, ast.With, ast.Match, ast.Delete, ast.Global, ast.Nonlocal, ast.Assert, ast.Yield,
            ast.YieldFrom, ast.Await, ast.AsyncFunctionDef, ast.AsyncFor, ast.AsyncWith, ast.Starred, ast.NamedExpr,
            ast.SetComp, ast.DictComp, ast.GeneratorExp, ast.Div, ast.MatMult)


class FormTest(unittest.TestCase):
    def each_node(self):
        for path in FILES:
            for node in ast.walk(ast.parse(path.read_text(encoding="ascii"))):
                yield f"{path.name}:{getattr(node, 'lineno', '')}", node

    def test_only_plain_files_lie_in_the_package(self):
        self.assertIn(PACKAGE / "__init__.py", FILES)
        for path in PACKAGE.iterdir():
            if path.name != "__pycache__":
                self.assertRegex(path.name, r"\A(__init__|[a-z][a-z0-9_]*)\.py\Z")

    def test_signs_words_and_size(self):
        for path in FILES:
            text = path.read_bytes().decode("ascii")
            with self.subTest(path=path.name):
                self.assertRegex(text, r"\A[ -~\n]*\Z")
                self.assertIsNone(WORDS.search(text))
                self.assertLessEqual(len(text.splitlines()), 400)
                self.assertLessEqual(max(len(line) for line in text.splitlines()), 120)

    def test_functions_are_short_and_plain(self):
        for place, node in self.each_node():
            if isinstance(node, ast.FunctionDef):
                with self.subTest(place=place):
                    self.assertLessEqual(node.end_lineno - node.lineno + 1, 40)
                    self.assertEqual(node.decorator_list, [])
                    self.assertIsNone(node.args.vararg)
                    self.assertIsNone(node.args.kwarg)
                    self.assertEqual(node.args.kwonlyargs, [])

    def test_imports_are_the_packages_own(self):
        # So no clock, no random source, no file and no network can be reached.
        for place, node in self.each_node():
            if isinstance(node, ast.ImportFrom):
                with self.subTest(place=place):
                    self.assertEqual(node.level, 0)
                    self.assertRegex(node.module, r"\Aminders\.[a-z][a-z0-9_]*\Z")
                    self.assertNotIn("*", [alias.name for alias in node.names])

    def test_nothing_else_of_the_language_is_used(self):
        for place, node in self.each_node():
            with self.subTest(place=place):
                self.assertNotIsInstance(node, NOT_USED)
                if isinstance(node, ast.Constant):
                    self.assertNotIsInstance(node.value, (float, complex, bytes))

    def test_names_of_pythons_own(self):
        for place, node in self.each_node():
            if isinstance(node, ast.Name):
                with self.subTest(place=place):
                    self.assertFalse(node.id.startswith("_"))
                    self.assertTrue(node.id in OWN_NAMES or not hasattr(builtins, node.id))


if __name__ == "__main__":
    unittest.main()
