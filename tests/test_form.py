"""Promise [1] and the form of the package: the rules of LANGUAGE.md that a simple test can see."""

import ast
import builtins
import pathlib
import re
import unittest

PACKAGE = pathlib.Path(__file__).resolve().parent.parent / "earlywrite"
FILES = sorted(PACKAGE.glob("*.py"))

ALLOWED_BUILTINS = set("""
    len range enumerate zip min max sum abs sorted reversed int str bool list tuple dict set isinstance ord repr
    any all divmod Exception ValueError TypeError KeyError IndexError LookupError ZeroDivisionError ArithmeticError
    OverflowError RuntimeError NotImplementedError AttributeError StopIteration NotImplemented iter next super
    property staticmethod classmethod bytes
""".split())
ALLOWED_SPECIAL = {"__init__", "__eq__", "__repr__", "__str__", "__len__", "__enter__", "__exit__", "__call__",
                   "__iter__"}
BARRED_WORDS = re.compile(
    r"\b(type|typing|typing_extensions|enum|Enum|IntEnum|StrEnum|Flag|IntFlag|Generic|Protocol|ABC|ABCMeta"
    r"|namedtuple|NamedTuple|TypedDict|TYPE_CHECKING|abstractmethod)\b|dataclass|overload|contextmanager")
TAKE_A_LIST = {"any", "all", "min", "max", "sum", "sorted"}


def nodes(path, *kinds):
    return [node for node in ast.walk(ast.parse(path.read_text())) if isinstance(node, kinds)]


def functions(path):
    return nodes(path, ast.FunctionDef)


def bound_names(path):
    """The names of parameters and of variables that are assigned."""
    return ([node.arg for node in nodes(path, ast.arg)]
            + [node.id for node in nodes(path, ast.Name) if not isinstance(node.ctx, ast.Load)])


class FormTest(unittest.TestCase):
    def test_the_folder_contains_python_files_only(self):
        found = [path.name for path in PACKAGE.iterdir() if path.name != "__pycache__"]
        self.assertEqual(sorted(found), [path.name for path in FILES])
        self.assertIn("__init__.py", found)

    def test_characters_and_sizes(self):
        for path in FILES:
            with self.subTest(path.name):
                rows = path.read_text(encoding="utf-8").split("\n")
                self.assertLessEqual(len(rows), 401)
                for row in rows:
                    self.assertRegex(row, r"^[ -~]{0,120}$")
                for function in functions(path):
                    self.assertLessEqual(function.end_lineno - function.lineno + 1, 40, function.name)

    def test_barred_words(self):
        for path in FILES:
            with self.subTest(path.name):
                self.assertIsNone(BARRED_WORDS.search(path.read_text()))

    def test_imports_are_from_the_package_only(self):
        for path in FILES:
            with self.subTest(path.name):
                self.assertEqual(nodes(path, ast.Import), [])
                for node in nodes(path, ast.ImportFrom):
                    self.assertEqual(node.level, 0)
                    self.assertRegex(node.module, r"^earlywrite\.[a-z]+$")
                    self.assertNotIn("*", [alias.name for alias in node.names])

    def test_only_exact_arithmetic(self):
        for path in FILES:
            with self.subTest(path.name):
                self.assertEqual(nodes(path, ast.Div), [])
                for node in nodes(path, ast.Constant):
                    self.assertNotIsInstance(node.value, (float, complex))
                    if isinstance(node.value, str):
                        self.assertNotIn("%", node.value)
                for node in nodes(path, ast.BinOp):
                    if isinstance(node.op, ast.Pow):
                        self.assertIsInstance(node.right, ast.Constant)

    def test_builtins(self):
        for path in FILES:
            with self.subTest(path.name):
                for node in nodes(path, ast.Name):
                    if hasattr(builtins, node.id):
                        self.assertIn(node.id, ALLOWED_BUILTINS)

    def test_statements(self):
        for path in FILES:
            with self.subTest(path.name):
                self.assertEqual(nodes(path, ast.Global, ast.AsyncFunctionDef, ast.Await, ast.AsyncFor), [])
                for node in nodes(path, ast.Compare):
                    for operator, right in zip(node.ops, node.comparators):
                        if isinstance(operator, (ast.Is, ast.IsNot)):
                            self.assertIn(getattr(right, "value", right), (None, True, False))

    def test_no_generator_expression_where_a_list_is_needed(self):
        for path in FILES:
            with self.subTest(path.name):
                for node in nodes(path, ast.Call):
                    if isinstance(node.func, ast.Name) and node.func.id in TAKE_A_LIST:
                        self.assertFalse([part for part in node.args if isinstance(part, ast.GeneratorExp)])

    def test_names(self):
        for path in FILES:
            with self.subTest(path.name):
                taken = {node.name for node in nodes(path, ast.ClassDef)}
                taken |= {alias.name for node in nodes(path, ast.ImportFrom) for alias in node.names}
                for name in bound_names(path):
                    self.assertRegex(name, r"^[A-Za-z]")
                    self.assertNotIn(name, taken)
                    self.assertFalse(hasattr(builtins, name), name)
                for function in functions(path):
                    if function.name.startswith("_"):
                        self.assertIn(function.name, ALLOWED_SPECIAL)

    def test_no_name_is_a_method_and_an_attribute(self):
        methods, attributes = set(), set()
        for path in FILES:
            for owner in nodes(path, ast.ClassDef):
                methods |= {part.name for part in owner.body if isinstance(part, ast.FunctionDef)}
            attributes |= {node.attr for node in nodes(path, ast.Attribute) if isinstance(node.ctx, ast.Store)}
        self.assertEqual(methods & attributes, set())


if __name__ == "__main__":
    unittest.main()
