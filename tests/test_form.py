"""The form of the package's code, as far as a short look at each file can tell."""

import ast
import builtins
import pathlib
import re
import unittest

PACKAGE = pathlib.Path(__file__).resolve().parent.parent / "waysranked"
BUILTINS = set(
    "len range enumerate zip min max sum abs sorted reversed int str bool bytes list tuple dict set frozenset "
    "isinstance ord repr any all divmod super property staticmethod classmethod Exception ValueError TypeError "
    "KeyError IndexError LookupError ZeroDivisionError ArithmeticError OverflowError RuntimeError "
    "NotImplementedError AttributeError StopIteration NotImplemented".split()
)
BARRED_WORDS = re.compile(
    r"\b(type|typing|typing_extensions|enum|Enum|IntEnum|StrEnum|Flag|IntFlag|Generic|Protocol|ABC|ABCMeta|namedtuple"
    r"|NamedTuple|TypedDict|TYPE_CHECKING|abstractmethod)\b|dataclass|overload|contextmanager"
)
BARRED_NODES = (ast.Global, ast.AsyncFunctionDef, ast.AsyncFor, ast.AsyncWith, ast.Await, ast.Div, ast.Import)
TOP_NODES = (ast.ImportFrom, ast.FunctionDef, ast.ClassDef, ast.Assign)


def files():
    """The package's files with their texts and trees."""
    return [(path, path.read_text("utf-8"), ast.parse(path.read_text("utf-8"))) for path in sorted(PACKAGE.glob("*"))
            if path.name != "__pycache__"]


def bound_at_top(tree):
    """The names that a file itself binds at module level, its imports aside."""
    names = [node.name for node in tree.body if isinstance(node, (ast.FunctionDef, ast.ClassDef))]
    for node in tree.body:
        if isinstance(node, ast.Assign):
            names += [target.id for target in node.targets]
    return names


def imported(tree):
    """The pairs of module and name that a file imports."""
    return [(node.module, name.name) for node in ast.walk(tree) if isinstance(node, ast.ImportFrom)
            for name in node.names]


class Form(unittest.TestCase):
    def setUp(self):
        self.files = files()

    def test_files(self):
        names = [path.name for path, _, _ in self.files]
        self.assertIn("__init__.py", names)
        for name in names:
            self.assertRegex(name, r"^(__init__|[a-z][a-z0-9_]*)\.py$")
            self.assertFalse(name.startswith("test"), name)

    def test_signs_and_sizes(self):
        for path, text, tree in self.files:
            lines = text.splitlines()
            self.assertRegex(text, r"\A[ -~\n]*\Z", path.name)
            self.assertLessEqual(len(lines), 400, path.name)
            self.assertLessEqual(max(map(len, lines)), 120, path.name)
            for node in ast.walk(tree):
                if isinstance(node, ast.FunctionDef):
                    self.assertLessEqual(node.end_lineno - node.lineno + 1, 40, (path.name, node.name))

    def test_barred_words(self):
        for path, text, _ in self.files:
            self.assertIsNone(BARRED_WORDS.search(text), path.name)

    def test_module_level(self):
        for path, _, tree in self.files:
            self.assertIsNotNone(ast.get_docstring(tree), path.name)
            for node in tree.body[1:]:
                self.assertIsInstance(node, TOP_NODES, (path.name, node.lineno))
            bound = bound_at_top(tree) + [name for _, name in imported(tree)]
            self.assertEqual(len(bound), len(set(bound)), path.name)

    def test_imports(self):
        own = {f"waysranked.{path.stem}": bound_at_top(tree) for path, _, tree in self.files}
        for path, _, tree in self.files:
            for module, name in imported(tree):
                self.assertIn(name, own.get(module, ()), (path.name, module))

    def test_no_two_files_import_from_each_other(self):
        ahead = {f"waysranked.{path.stem}": {module for module, _ in imported(tree)} for path, _, tree in self.files}
        while ahead:
            ready = [module for module in ahead if not ahead[module] & set(ahead)]
            self.assertTrue(ready, sorted(ahead))
            for module in ready:
                del ahead[module]

    def test_statements_values_and_builtins(self):
        for path, _, tree in self.files:
            for node in ast.walk(tree):
                self.assertNotIsInstance(node, BARRED_NODES, (path.name, getattr(node, "lineno", None)))
                if isinstance(node, ast.Constant):
                    self.assertNotIsInstance(node.value, (float, complex), (path.name, node.lineno))
                    self.assertNotIn("%", str(node.value), (path.name, node.lineno))
                if isinstance(node, ast.Name) and hasattr(builtins, node.id):
                    self.assertIn(node.id, BUILTINS, (path.name, node.lineno))
                    self.assertIsInstance(node.ctx, ast.Load, (path.name, node.lineno))
                if isinstance(node, ast.arg):
                    self.assertFalse(hasattr(builtins, node.arg), (path.name, node.lineno))

    def test_no_generators(self):
        # The package has a class with __eq__, so any, all, sorted and the like take lists.
        for path, _, tree in self.files:
            for node in ast.walk(tree):
                self.assertNotIsInstance(node, (ast.GeneratorExp, ast.Yield, ast.YieldFrom, ast.Try), path.name)

    def test_no_local_name_is_a_class_or_an_import(self):
        for path, _, tree in self.files:
            barred = {name for _, name in imported(tree)}
            barred |= {node.name for node in tree.body if isinstance(node, ast.ClassDef)}
            for node in ast.walk(tree):
                if isinstance(node, ast.Name) and isinstance(node.ctx, ast.Store):
                    self.assertNotIn(node.id, barred, (path.name, node.lineno))
                if isinstance(node, ast.arg):
                    self.assertNotIn(node.arg, barred, (path.name, node.lineno))

    def test_no_name_is_a_method_and_an_attribute(self):
        methods, stored = set(), set()
        for _, _, tree in self.files:
            for kind in (node for node in tree.body if isinstance(node, ast.ClassDef)):
                methods |= {node.name for node in kind.body if isinstance(node, ast.FunctionDef)}
            stored |= {node.attr for node in ast.walk(tree) if isinstance(node, ast.Attribute)
                       and isinstance(node.ctx, ast.Store)}
        self.assertFalse(methods & stored)
        values = ("", 0, [], {}, set(), b"", ())
        self.assertFalse([name for name in methods | stored if not name.startswith("__")
                          and any(hasattr(value, name) for value in values)])

    def test_plain_names(self):
        for path, _, tree in self.files:
            for node in ast.walk(tree):
                for name in (getattr(node, "id", None), getattr(node, "arg", None), getattr(node, "attr", None)):
                    if isinstance(name, str) and name != "__init__":
                        self.assertRegex(name, r"^[A-Za-z]\w*$", (path.name, getattr(node, "lineno", None)))


if __name__ == "__main__":
    unittest.main()
