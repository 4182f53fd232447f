"""What of the package's form can be told by a look at its files."""

import ast
import builtins
import functools
import re
import unittest
from pathlib import Path

PACKAGE = Path(__file__).resolve().parent.parent / "minders"
FILES = sorted(PACKAGE.glob("*.py"))

OWN_NAMES = set("""
len range enumerate zip min max sum abs sorted reversed int str bool list tuple dict set frozenset isinstance ord
repr any all divmod Exception ValueError TypeError KeyError IndexError LookupError ZeroDivisionError
ArithmeticError OverflowError RuntimeError NotImplementedError AttributeError StopIteration
""".split())

WORDS = re.compile(r"\b(type|typing|typing_extensions|enum|Enum|IntEnum|StrEnum|Flag|IntFlag|Generic|Protocol|ABC|"
                   r"ABCMeta|namedtuple|NamedTuple|TypedDict|TYPE_CHECKING|abstractmethod)\b|"
                   r"dataclass|overload|contextmanager")

NOT_USED = (ast.Import, ast.With, ast.Match, ast.Delete, ast.Global, ast.Nonlocal, ast.Assert, ast.Yield,
            ast.YieldFrom, ast.Await, ast.AsyncFunctionDef, ast.AsyncFor, ast.AsyncWith, ast.Starred, ast.NamedExpr,
            ast.SetComp, ast.DictComp, ast.GeneratorExp, ast.Div, ast.MatMult)

METHODS = set("""
append clear copy count endswith extend find get index insert isalnum isalpha isdigit islower isspace isupper items
join keys ljust lower lstrip partition pop remove replace reverse rfind rjust rpartition rsplit rstrip setdefault split
splitlines startswith strip update upper values zfill bit_length
""".split())

TWO_UNDERSCORES = {"__init__", "__eq__", "__repr__", "__str__", "__len__"}

NOWHERE = {"register", "mro", "elements", "open", "input", "version_info", "with_traceback", "add_note", "format",
           "format_map"}
FILE_NAMES = {"test", "tests", "testing", "site", "conftest", "sitecustomize", "usercustomize"} | set(dir(builtins))
WALKED = {"zip", "enumerate", "reversed", "range", "items", "keys", "values"}
WALKERS = {"list", "tuple", "dict", "sorted", "sum", "any", "all", "enumerate", "zip"}
KEYWORDS = {"sorted": {"key", "reverse"}, "min": {"key", "default"}, "max": {"key", "default"}, "sum": {"start"},
            "enumerate": {"start"}, "zip": {"strict"}}
VALUES_OF_PYTHONS = {name for kind in (str, int, list, dict, set, bytes) for name in dir(kind)}
FREE_VALUES = {"count", "index", "title", "find", "get", "join", "lower", "upper", "split", "strip", "copy", "add"}
CHANGES = {"append", "clear", "extend", "insert", "pop", "remove", "reverse", "setdefault", "update"}


@functools.cache
def parsed(path):
    return ast.parse(path.read_text(encoding="ascii"))


def called(node):
    if not isinstance(node, ast.Call):
        return ""
    return node.func.id if isinstance(node.func, ast.Name) else node.func.attr


def is_plain(value):
    if isinstance(value, ast.Tuple):
        return all(is_plain(each) for each in value.elts)
    return isinstance(value, ast.Constant)


def names_bound_at_the_top(tree):
    names = []
    for node in tree.body:
        if isinstance(node, (ast.FunctionDef, ast.ClassDef)):
            names.append(node.name)
        elif isinstance(node, ast.ImportFrom):
            names.extend(alias.asname or alias.name for alias in node.names)
        elif isinstance(node, ast.Assign):
            names.extend(target.id for target in node.targets)
    return names


def names_bound_within(function):
    for node in ast.walk(function):
        if isinstance(node, ast.arg):
            yield node.arg
        elif isinstance(node, ast.Name) and isinstance(node.ctx, ast.Store):
            yield node.id


class FormTest(unittest.TestCase):
    def each_node(self):
        for path in FILES:
            for node in ast.walk(parsed(path)):
                yield f"{path.name}:{getattr(node, 'lineno', '')}", node

    def each_of(self, kind):
        return [(place, node) for place, node in self.each_node() if isinstance(node, kind)]

    @functools.cache
    def method_names(self):
        return {method.name for place, node in self.each_of(ast.ClassDef)
                for method in node.body if isinstance(method, ast.FunctionDef)}

    def with_what_is_around(self):
        for place, node in self.each_node():
            for child in ast.iter_child_nodes(node):
                yield place, child, node

    def test_only_plain_files_lie_in_the_package(self):
        self.assertIn(PACKAGE / "__init__.py", FILES)
        for path in PACKAGE.iterdir():
            if path.name != "__pycache__":
                self.assertRegex(path.name, r"\A(__init__|[a-z][a-z0-9_]*)\.py\Z")
                self.assertNotIn(path.stem, FILE_NAMES)
                self.assertFalse(path.stem.startswith("test_"))

    def test_signs_words_and_size(self):
        for path in FILES:
            text = path.read_bytes().decode("ascii")
            with self.subTest(path=path.name):
                self.assertRegex(text, r"\A[ -~\n]*\Z")
                self.assertIsNone(WORDS.search(text))
                self.assertLessEqual(len(text.splitlines()), 400)
                self.assertLessEqual(max(len(line) for line in text.splitlines()), 120)

    def test_functions_are_short_and_plain(self):
        for place, node in self.each_node():
            if isinstance(node, ast.FunctionDef):
                with self.subTest(place=place):
                    self.assertLessEqual(node.end_lineno - node.lineno + 1, 40)
                    self.assertEqual(node.decorator_list, [])
                    self.assertIsNone(node.args.vararg)
                    self.assertIsNone(node.args.kwarg)
                    self.assertEqual(node.args.kwonlyargs, [])

    def test_imports_are_the_packages_own(self):
        # So no clock, no random source, no file and no network can be reached.
        for place, node in self.each_node():
            if isinstance(node, ast.ImportFrom):
                with self.subTest(place=place):
                    self.assertEqual(node.level, 0)
                    self.assertRegex(node.module, r"\Aminders\.[a-z][a-z0-9_]*\Z")
                    self.assertNotIn("*", [alias.name for alias in node.names])

    def test_nothing_else_of_the_language_is_used(self):
        for place, node in self.each_node():
            with self.subTest(place=place):
                self.assertNotIsInstance(node, NOT_USED)
                if isinstance(node, ast.Constant):
                    self.assertNotIsInstance(node.value, (float, complex, bytes))

    def test_names_of_pythons_own(self):
        for place, node in self.each_node():
            if isinstance(node, ast.Name):
                with self.subTest(place=place):
                    self.assertFalse(node.id.startswith("_"))
                    self.assertTrue(node.id in OWN_NAMES or not hasattr(builtins, node.id))

    def test_names_are_plain(self):
        for place, node in self.each_node():
            for part in ("name", "arg", "attr", "asname"):
                name = getattr(node, part, None)
                if name is not None and name not in TWO_UNDERSCORES:
                    with self.subTest(place=place):
                        self.assertRegex(name, r"\A[A-Za-z][A-Za-z0-9_]*\Z")

    def test_each_name_is_bound_once_at_the_top_and_hidden_nowhere(self):
        for path in FILES:
            tree = parsed(path)
            top = names_bound_at_the_top(tree)
            self.assertEqual(len(top), len(set(top)), path.name)
            functions = [node for node in ast.walk(tree) if isinstance(node, (ast.FunctionDef, ast.Lambda))]
            for function in functions:
                for name in names_bound_within(function):
                    with self.subTest(path=path.name, name=name):
                        self.assertNotIn(name, top)
                        self.assertFalse(hasattr(builtins, name))

    def test_imports_come_from_the_file_that_defines_the_name(self):
        drawn = {}
        for path in FILES:
            drawn[path.stem] = [node for node in parsed(path).body if isinstance(node, ast.ImportFrom)]
            for node in drawn[path.stem]:
                source = parsed(PACKAGE / f"{node.module.partition('.')[2]}.py")
                defined = names_bound_at_the_top(ast.Module([each for each in source.body
                                                             if not isinstance(each, ast.ImportFrom)], []))
                self.assertLessEqual({alias.name for alias in node.names}, set(defined), path.name)
        # Whatever draws only from files already taken is taken; two that draw from one another never are.
        taken = set()
        for each in drawn:
            taken |= {stem for stem, nodes in drawn.items()
                      if all(node.module.partition(".")[2] in taken for node in nodes)}
        self.assertEqual(taken, set(drawn))

    def test_classes_are_plain(self):
        for place, node in self.each_of(ast.ClassDef):
            names = [method.name for method in node.body if isinstance(method, ast.FunctionDef)]
            with self.subTest(place=place):
                self.assertLessEqual(len(node.bases), 1)
                self.assertEqual(node.keywords + node.decorator_list, [])
                self.assertEqual(len(names), len(set(names)))
                for each in node.body:
                    self.assertIsInstance(each, (ast.FunctionDef, ast.Pass))

    def test_no_name_is_a_method_and_a_value(self):
        for place, node in self.each_of(ast.Attribute):
            if isinstance(node.ctx, ast.Store):
                self.assertNotIn(node.attr, self.method_names(), place)

    def test_methods_are_own_or_listed(self):
        for place, node in self.each_of(ast.Call):
            if isinstance(node.func, ast.Attribute):
                self.assertIn(node.func.attr, METHODS | self.method_names(), place)

    def test_what_makes_an_object_gives_back_nothing(self):
        for place, node in self.each_of(ast.FunctionDef):
            if node.name == "__init__":
                self.assertFalse(any(isinstance(each, ast.Return) for each in ast.walk(node)), place)

    def test_is_stands_beside_none_true_and_false_alone(self):
        for place, node in self.each_of(ast.Compare):
            for sign, beside in zip(node.ops, node.comparators):
                if isinstance(sign, (ast.Is, ast.IsNot)):
                    self.assertIn(ast.unparse(beside), ("None", "True", "False"), place)

    def test_exponents_are_written(self):
        for place, node in self.each_of(ast.BinOp):
            if isinstance(node.op, ast.Pow):
                self.assertIn(ast.unparse(node.right), [str(number) for number in range(65)], place)

    def test_no_sign_of_hundredths_in_a_text(self):
        for place, node in self.each_of(ast.Constant):
            if isinstance(node.value, str):
                self.assertNotIn("%", node.value, place)

    def test_only_plain_things_stand_at_the_top(self):
        # No list and no dict stands there, so none can be changed or handed on.
        for path in FILES:
            tree = parsed(path)
            self.assertIsNotNone(ast.get_docstring(tree), path.name)
            for node in tree.body[1:]:
                with self.subTest(path=path.name, line=node.lineno):
                    self.assertIsInstance(node, (ast.ImportFrom, ast.FunctionDef, ast.ClassDef, ast.Assign))
                    self.assertTrue(not isinstance(node, ast.Assign) or is_plain(node.value))

    def test_statements_are_plain(self):
        for place, node in self.each_node():
            with self.subTest(place=place):
                self.assertNotIsInstance(node, (ast.AnnAssign, ast.Set, ast.Lambda))
                if isinstance(node, ast.Assign):
                    self.assertEqual(len(node.targets), 1)
                    self.assertNotIsInstance(node.targets[0], (ast.Tuple, ast.List))
                if isinstance(node, (ast.For, ast.While)):
                    self.assertEqual(node.orelse, [])
                if isinstance(node, ast.Try):
                    self.assertEqual(node.finalbody, [])
                if isinstance(node, ast.Expr):
                    self.assertIsInstance(node.value, (ast.Call, ast.Constant))
                if isinstance(node, ast.ListComp):
                    self.assertEqual(len(node.generators), 1)
                    self.assertLessEqual(len(node.generators[0].ifs), 1)
                if isinstance(node, ast.FormattedValue):
                    self.assertIsInstance(node.value, ast.Name)
                    self.assertIn(node.conversion, (-1, ord("r")))
                    self.assertIsNone(node.format_spec)

    def test_names_that_are_not_used(self):
        for place, node in self.each_node():
            for part in ("id", "name", "arg", "attr"):
                self.assertNotIn(getattr(node, part, None), NOWHERE, place)
                self.assertNotIn(getattr(node, part, None), ("set", "frozenset"), place)

    def test_values_of_objects_are_not_called_like_pythons_own(self):
        for place, node in self.each_of(ast.Attribute):
            if isinstance(node.ctx, ast.Store):
                self.assertNotIn(node.attr, (VALUES_OF_PYTHONS - FREE_VALUES) | {"args", "sort"}, place)
                self.assertIsInstance(node.value, ast.Name, place)

    def test_methods_of_the_packages_own_are_free_or_listed(self):
        self.assertEqual((self.method_names() & VALUES_OF_PYTHONS) - METHODS - {"add", "discard"} - TWO_UNDERSCORES,
                         set())

    def test_methods_are_called_where_they_stand(self):
        for place, node, around in self.with_what_is_around():
            if isinstance(node, ast.Attribute) and node.attr in METHODS | self.method_names():
                self.assertTrue(isinstance(around, ast.Call) and around.func is node, place)

    def test_classes_are_called_or_are_bases_or_are_taken(self):
        classes = {node.name for place, node in self.each_of(ast.ClassDef)}
        for place, node, around in self.with_what_is_around():
            if isinstance(node, ast.Name) and node.id in classes:
                self.assertTrue(isinstance(around, (ast.ClassDef, ast.ExceptHandler))
                                or (isinstance(around, ast.Call) and around.func is node)
                                or (isinstance(around, ast.Attribute) and around.attr == "__init__"), place)

    def test_errors_are_the_packages_own(self):
        errors = {node.name for node in parsed(PACKAGE / "errors.py").body if isinstance(node, ast.ClassDef)}
        for place, node in self.each_of(ast.ExceptHandler):
            self.assertIn(node.type.id, errors, place)
        for place, node in self.each_of(ast.Raise):
            self.assertIn(called(node.exc), errors, place)

    def test_keywords_of_pythons_own(self):
        for place, node in self.each_of(ast.Call):
            if called(node) in OWN_NAMES | METHODS:
                self.assertLessEqual({each.arg for each in node.keywords}, KEYWORDS.get(called(node), set()), place)

    def test_walked_on_the_spot(self):
        for place, node, around in self.with_what_is_around():
            if called(node) in WALKED:
                walked = isinstance(around, (ast.For, ast.comprehension)) and around.iter is node
                first = called(around) in WALKERS and around.args[0] is node
                alone = called(around) in ("min", "max") and len(around.args) == 1
                self.assertTrue(walked or first or alone, place)

    def test_what_a_loop_walks_is_not_changed_in_it(self):
        for place, loop in self.each_of(ast.For):
            walked = {ast.unparse(node) for node in ast.walk(loop.iter)
                      if isinstance(node, (ast.Name, ast.Attribute))} - {"self"}
            for node in ast.walk(ast.Module(loop.body, [])):
                if isinstance(node, ast.Call) and isinstance(node.func, ast.Attribute) and node.func.attr in CHANGES:
                    self.assertNotIn(ast.unparse(node.func.value), walked, place)
                if isinstance(node, ast.Subscript) and isinstance(node.ctx, ast.Store):
                    self.assertNotIn(ast.unparse(node.value), walked, place)

    def test_escapes(self):
        for path in FILES:
            found = re.findall(r"\\.", path.read_text(encoding="ascii"))
            self.assertLessEqual(set(found), {"\\n", "\\t", "\\\\", "\\'", '\\"'}, path.name)


if __name__ == "__main__":
    unittest.main()
