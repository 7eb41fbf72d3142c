"""Promise [1] and the form of the package: the rules of LANGUAGE.md that a simple test can see."""

import ast
import builtins
import pathlib
import re
import unittest

PACKAGE = pathlib.Path(__file__).resolve().parent.parent / "earlywrite"
FILES = sorted(PACKAGE.glob("*.py"))

ALLOWED_BUILTINS = set("""
    len range enumerate zip min max sum abs sorted reversed int str bool list tuple dict set isinstance ord repr
    any all divmod Exception ValueError TypeError KeyError IndexError LookupError ZeroDivisionError ArithmeticError
    OverflowError RuntimeError NotImplementedError AttributeError StopIteration NotImplemented iter next super
    property staticmethod classmethod bytes
""".split())
ALLOWED_SPECIAL = {"__init__", "__eq__", "__repr__", "__str__", "__len__", "__enter__", "__exit__", "__call__",
                   "__iter__"}
BARRED_WORDS = re.compile(
    r"\b(type|typing|typing_extensions|enum|Enum|IntEnum|StrEnum|Flag|IntFlag|Generic|Protocol|ABC|ABCMeta"
    r"|namedtuple|NamedTuple|TypedDict|TYPE_CHECKING|abstractmethod)\b|dataclass|overload|contextmanager")
CHANGING = {"append", "clear", "extend", "insert", "pop", "remove", "reverse", "setdefault", "update", "sort"}
ALLOWED_METHODS = set("""
    append clear copy count endswith extend find get index insert isalnum isalpha isdigit islower isspace isupper items
    join keys ljust lower lstrip partition pop remove replace reverse rfind rjust rpartition rsplit rstrip setdefault
    split splitlines startswith strip update upper values zfill bit_length
""".split())
TAKE_A_LIST = {"any", "all", "min", "max", "sum", "sorted"}


def nodes(path, *kinds):
    return [node for node in ast.walk(ast.parse(path.read_text())) if isinstance(node, kinds)]


def functions(path):
    return nodes(path, ast.FunctionDef)


def defined_names(path):
    """The names that a file defines at module level."""
    names = []
    for node in ast.parse(path.read_text()).body:
        if isinstance(node, (ast.FunctionDef, ast.ClassDef)):
            names.append(node.name)
        elif isinstance(node, ast.Assign):
            names.extend([target.id for target in node.targets])
    return names


def bound_names(path):
    """The names of parameters and of variables that are assigned."""
    return ([node.arg for node in nodes(path, ast.arg)]
            + [node.id for node in nodes(path, ast.Name) if not isinstance(node.ctx, ast.Load)])


class FormTest(unittest.TestCase):
    def test_the_folder_contains_python_files_only(self):
        found = [path.name for path in PACKAGE.iterdir() if path.name != "__pycache__"]
        self.assertEqual(sorted(found), [path.name for path in FILES])
        self.assertIn("__init__.py", found)

    def test_characters_and_sizes(self):
        for path in FILES:
            with self.subTest(path.name):
                rows = path.read_text(encoding="utf-8").split("\n")
                self.assertLessEqual(len(rows), 401)
                for row in rows:
                    self.assertRegex(row, r"^[ -~]{0,120}$")
                for function in functions(path):
                    self.assertLessEqual(function.end_lineno - function.lineno + 1, 40, function.name)

    def test_barred_words(self):
        for path in FILES:
            with self.subTest(path.name):
                self.assertIsNone(BARRED_WORDS.search(path.read_text()))

    def test_imports_are_from_the_package_only(self):
        for path in FILES:
            with self.subTest(path.name):
                self.assertEqual(nodes(path, ast.Import), [])
                for node in nodes(path, ast.ImportFrom):
                    self.assertEqual(node.level, 0)
                    self.assertRegex(node.module, r"^earlywrite\.[a-z]+$")
                    self.assertNotIn("*", [alias.name for alias in node.names])

    def test_imports_name_the_file_that_defines_a_name(self):
        for path in FILES:
            with self.subTest(path.name):
                text = path.read_text()
                for node in nodes(path, ast.ImportFrom):
                    source = PACKAGE / (node.module.split(".")[1] + ".py")
                    for alias in node.names:
                        self.assertIn(alias.name, defined_names(source))
                        # The import itself is one occurrence.
                        self.assertGreater(len(re.findall(rf"\b{alias.name}\b", text)), 1, alias.name)

    def test_no_two_files_import_from_each_other(self):
        needed = {path.stem: {node.module.split(".")[1] for node in nodes(path, ast.ImportFrom)} for path in FILES}
        while needed:
            free = [name for name in needed if not needed[name] & set(needed)]
            self.assertTrue(free, needed)
            for name in free:
                del needed[name]

    def test_names_are_bound_once_at_module_level(self):
        for path in FILES:
            with self.subTest(path.name):
                names = defined_names(path) + [alias.name for node in nodes(path,
                                                                            ast.ImportFrom) for alias in node.names]
                self.assertEqual(len(names), len(set(names)))

    def test_errors_are_raised_where_they_are_made(self):
        for path in FILES:
            with self.subTest(path.name):
                for node in nodes(path, ast.Raise):
                    self.assertIsInstance(node.exc, ast.Call)
                    self.assertIn(node.exc.func.id, defined_names(PACKAGE / "errors.py"))

    def test_only_own_errors_are_caught(self):
        for path in FILES:
            with self.subTest(path.name):
                for handler in nodes(path, ast.ExceptHandler):
                    caught = handler.type.elts if isinstance(handler.type, ast.Tuple) else [handler.type]
                    for error in caught:
                        self.assertIn(error.id, defined_names(PACKAGE / "errors.py"))

    def test_what_a_loop_goes_over_is_not_changed_in_it(self):
        for path in FILES:
            with self.subTest(path.name):
                for loop in nodes(path, ast.For):
                    over = {node.id for node in ast.walk(loop.iter) if isinstance(node, ast.Name)}
                    for node in ast.walk(ast.Module(loop.body, [])):
                        if isinstance(node, ast.Call) and isinstance(node.func, ast.Attribute):
                            if node.func.attr in CHANGING and isinstance(node.func.value, ast.Name):
                                self.assertNotIn(node.func.value.id, over)
                        if isinstance(node, ast.Subscript) and isinstance(node.ctx, ast.Store):
                            self.assertFalse({part.id for part in ast.walk(node.value) if isinstance(part,
                                                                                                     ast.Name)} & over)

    def test_methods_of_builtin_values(self):
        own = {part.name for path in FILES for owner in nodes(path, ast.ClassDef) for part in owner.body
               if isinstance(part, ast.FunctionDef)}
        for path in FILES:
            with self.subTest(path.name):
                for node in nodes(path, ast.Call):
                    if isinstance(node.func, ast.Attribute):
                        self.assertIn(node.func.attr, own | ALLOWED_METHODS)

    def test_only_exact_arithmetic(self):
        for path in FILES:
            with self.subTest(path.name):
                self.assertEqual(nodes(path, ast.Div), [])
                for node in nodes(path, ast.Constant):
                    self.assertNotIsInstance(node.value, (float, complex))
                    if isinstance(node.value, str):
                        self.assertNotIn("%", node.value)
                for node in nodes(path, ast.BinOp):
                    if isinstance(node.op, ast.Pow):
                        self.assertIsInstance(node.right, ast.Constant)

    def test_builtins(self):
        for path in FILES:
            with self.subTest(path.name):
                for node in nodes(path, ast.Name):
                    if hasattr(builtins, node.id):
                        self.assertIn(node.id, ALLOWED_BUILTINS)

    def test_statements(self):
        for path in FILES:
            with self.subTest(path.name):
                self.assertEqual(nodes(path, ast.Global, ast.AsyncFunctionDef, ast.Await, ast.AsyncFor), [])
                for node in nodes(path, ast.Compare):
                    for operator, right in zip(node.ops, node.comparators):
                        if isinstance(operator, (ast.Is, ast.IsNot)):
                            self.assertIn(getattr(right, "value", right), (None, True, False))

    def test_no_generator_expression_where_a_list_is_needed(self):
        for path in FILES:
            with self.subTest(path.name):
                for node in nodes(path, ast.Call):
                    if isinstance(node.func, ast.Name) and node.func.id in TAKE_A_LIST:
                        self.assertFalse([part for part in node.args if isinstance(part, ast.GeneratorExp)])

    def test_names(self):
        for path in FILES:
            with self.subTest(path.name):
                taken = {node.name for node in nodes(path, ast.ClassDef)}
                taken |= {alias.name for node in nodes(path, ast.ImportFrom) for alias in node.names}
                for name in bound_names(path):
                    self.assertRegex(name, r"^[A-Za-z]")
                    self.assertNotIn(name, taken)
                    self.assertFalse(hasattr(builtins, name), name)
                for function in functions(path):
                    if function.name.startswith("_"):
                        self.assertIn(function.name, ALLOWED_SPECIAL)

    def test_no_name_is_a_method_and_an_attribute(self):
        methods, attributes = set(), set()
        for path in FILES:
            for owner in nodes(path, ast.ClassDef):
                methods |= {part.name for part in owner.body if isinstance(part, ast.FunctionDef)}
            attributes |= {node.attr for node in nodes(path, ast.Attribute) if isinstance(node.ctx, ast.Store)}
        self.assertEqual(methods & attributes, set())


if __name__ == "__main__":
    unittest.main()
