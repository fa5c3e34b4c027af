"""The form of the package's files: what of the language rules can be seen mechanically."""

import ast
import pathlib
import re
import unittest

PACKAGE = pathlib.Path(__file__).resolve().parent.parent / "onelane"

ALLOWED_NODES = tuple(getattr(ast, name) for name in """
    Module Expr Constant ImportFrom alias FunctionDef ClassDef arguments arg Assign AugAssign If While For Return
    Break Continue Pass Raise Try ExceptHandler Call Name Attribute Subscript Slice Load Store List Tuple Dict
    BinOp UnaryOp BoolOp Compare IfExp ListComp comprehension Lambda JoinedStr FormattedValue Set keyword
    Add Sub Mult FloorDiv Mod Pow BitAnd BitOr BitXor LShift RShift Invert USub UAdd Not And Or
    Eq NotEq Lt LtE Gt GtE In NotIn Is IsNot
""".split())

BUILT_IN = set("""
    len range enumerate zip min max sum abs sorted reversed int str bool list tuple dict set frozenset isinstance
    ord repr any all divmod Exception ValueError TypeError KeyError IndexError LookupError ZeroDivisionError
    ArithmeticError OverflowError RuntimeError NotImplementedError AttributeError StopIteration
""".split())

METHODS = set("""
    append clear copy count endswith extend find get index insert isalnum isalpha isdigit islower isspace isupper
    items join keys ljust lower lstrip partition pop remove replace reverse rfind rjust rpartition rsplit rstrip
    setdefault split splitlines startswith strip update upper values zfill bit_length
""".split())

WORDS = set("""
    type typing typing_extensions enum Enum IntEnum StrEnum Flag IntFlag Generic Protocol ABC ABCMeta namedtuple
    NamedTuple TypedDict TYPE_CHECKING abstractmethod
""".split())

UNDERSCORED = ("__init__", "__eq__", "__repr__", "__str__", "__len__")


def files():
    return sorted(path for path in PACKAGE.rglob("*") if path.is_file() and "__pycache__" not in path.parts)


def names_bound(tree):
    bound = set()
    for node in ast.walk(tree):
        if isinstance(node, (ast.FunctionDef, ast.ClassDef)):
            bound.add(node.name)
        elif isinstance(node, ast.arg):
            bound.add(node.arg)
        elif isinstance(node, ast.Name) and isinstance(node.ctx, ast.Store):
            bound.add(node.id)
        elif isinstance(node, ast.alias):
            bound.add(node.asname or node.name)
    return bound


def stored_values(tree):
    return {node.attr for node in ast.walk(tree) if isinstance(node, ast.Attribute) and isinstance(node.ctx, ast.Store)}


def methods_of(tree):
    return [item.name for node in ast.walk(tree) if isinstance(node, ast.ClassDef)
            for item in node.body if isinstance(item, ast.FunctionDef)]


class FormTest(unittest.TestCase):
    def setUp(self):
        self.texts = {path: path.read_text(encoding="utf-8") for path in files()}
        self.trees = {path: ast.parse(text) for path, text in self.texts.items()}

    def test_files(self):
        self.assertIn(PACKAGE / "__init__.py", self.texts)
        for path in self.texts:
            self.assertRegex(path.name, r"\A([a-z][a-z0-9_]*|__init__|__main__)\.py\Z")

    def test_signs_and_sizes(self):
        for path, text in self.texts.items():
            with self.subTest(path=path.name):
                self.assertRegex(text, r"\A[ -~\n]*\Z")
                lines = text.split("\n")
                self.assertLessEqual(len(lines), 400)
                self.assertLessEqual(max(len(line) for line in lines), 120)
                words = set(re.findall(r"\w+", text))
                self.assertEqual(words & WORDS, set())
                self.assertNotRegex(text, "dataclass|overload|contextmanager")

    def test_only_plain_syntax(self):
        for path, tree in self.trees.items():
            for node in ast.walk(tree):
                with self.subTest(path=path.name, line=getattr(node, "lineno", 0)):
                    self.assertIsInstance(node, ALLOWED_NODES)
                    self.check_node(node)

    def check_node(self, node):
        if isinstance(node, ast.FunctionDef):
            self.assertLessEqual(node.end_lineno - node.lineno + 1, 40)
            self.assertEqual(node.decorator_list, [])
            self.assertIsNone(node.args.vararg or node.args.kwarg)
            self.assertEqual(node.args.kwonlyargs + node.args.posonlyargs, [])
        elif isinstance(node, ast.ClassDef):
            self.assertEqual(node.decorator_list, [])
            self.assertLessEqual(len(node.bases), 1)
        elif isinstance(node, (ast.For, ast.While)):
            self.assertEqual(node.orelse, [])
        elif isinstance(node, ast.Assign):
            self.assertEqual(len(node.targets), 1)
        elif isinstance(node, ast.Constant):
            self.assertIn(type(node.value), (int, str, bool, type(None)))
        elif isinstance(node, ast.ImportFrom):
            self.assertEqual(node.level, 0)
            self.assertTrue(node.module.startswith("onelane."), node.module)

    def test_names(self):
        own_methods = {name for tree in self.trees.values() for name in methods_of(tree)}
        for path, tree in self.trees.items():
            bound = names_bound(tree)
            for name in bound - set(UNDERSCORED):
                self.assertRegex(name, r"\A[A-Za-z][A-Za-z0-9_]*\Z")
                self.assertFalse(hasattr(__import__("builtins"), name), name)
            for node in ast.walk(tree):
                if isinstance(node, ast.Name) and isinstance(node.ctx, ast.Load):
                    self.assertIn(node.id, bound | BUILT_IN, path.name)
                if isinstance(node, ast.Call) and isinstance(node.func, ast.Attribute):
                    self.assertIn(node.func.attr, own_methods | METHODS, path.name)

    def test_methods_and_values_apart(self):
        methods = [name for tree in self.trees.values() for name in methods_of(tree) if name not in UNDERSCORED]
        values = {name for tree in self.trees.values() for name in stored_values(tree)}
        self.assertEqual(set(methods) & values, set())
        self.assertEqual(len(methods), len(set(methods)))
        taken = {name for value in ("", 0, [], {}, set(), b"") for name in dir(value)}
        self.assertEqual((set(methods) | values) & taken, set())


if __name__ == "__main__":
    unittest.main()
