"""Those of the language's rules that can be told from the package's files alone."""

import ast
import builtins
import pathlib
import re
import unittest

PACKAGE = pathlib.Path(__file__).resolve().parent.parent / "oneaddress"
ALLOWED_NODES = """
    Module FunctionDef arguments arg ClassDef ImportFrom alias Assign AugAssign If While For Return Break Continue
    Pass Raise Try ExceptHandler Expr Constant Name Load Store Attribute Subscript Slice Call keyword List Tuple Dict
    ListComp comprehension IfExp BinOp Add Sub Mult FloorDiv Mod Pow BitAnd BitOr BitXor LShift RShift UnaryOp USub
    Invert Not BoolOp And Or Compare Eq NotEq Lt LtE Gt GtE In NotIn Is IsNot Lambda JoinedStr FormattedValue
""".split()
ALLOWED_BUILTINS = """
    len range enumerate zip min max sum abs sorted reversed int str bool list tuple dict set frozenset isinstance ord
    repr any all divmod Exception ValueError TypeError KeyError IndexError LookupError ZeroDivisionError
    ArithmeticError OverflowError RuntimeError NotImplementedError AttributeError StopIteration
""".split()
ALLOWED_METHODS = """
    append clear copy count endswith extend find get index insert isalnum isalpha isdigit islower isspace isupper
    items join keys ljust lower lstrip partition pop remove replace reverse rfind rjust rpartition rsplit rstrip
    setdefault split splitlines startswith strip update upper values zfill bit_length
""".split()
RULED_OUT_WORDS = """
    type typing typing_extensions enum Enum IntEnum StrEnum Flag IntFlag Generic Protocol ABC ABCMeta namedtuple
    NamedTuple TypedDict TYPE_CHECKING abstractmethod
""".split()


def walk(tree, *kinds):
    return [node for node in ast.walk(tree) if isinstance(node, kinds)]


def bound_names(tree):
    """Every name that a file gives a meaning."""
    names = [node.name for node in walk(tree, ast.FunctionDef, ast.ClassDef)]
    names += [node.arg for node in walk(tree, ast.arg)]
    names += [node.asname or node.name for node in walk(tree, ast.alias)]
    names += [node.id for node in walk(tree, ast.Name) if isinstance(node.ctx, ast.Store)]
    return names


def top_names(tree):
    names = [node.name for node in tree.body if isinstance(node, (ast.FunctionDef, ast.ClassDef))]
    return names + [node.targets[0].id for node in tree.body if isinstance(node, ast.Assign)]


class Language(unittest.TestCase):
    def setUp(self):
        self.texts = {path.stem: path.read_text("utf-8") for path in sorted(PACKAGE.glob("*.py"))}
        self.trees = {name: ast.parse(text) for name, text in self.texts.items()}

    def test_files(self):
        found = [path.name for path in PACKAGE.iterdir() if path.name != "__pycache__"]
        for name in found:
            self.assertRegex(name, r"\A[a-z_][a-z0-9_]*\.py\Z")
        self.assertIn("__init__.py", found)
        self.assertIn("house.py", found)

    def test_signs_and_sizes(self):
        for name, text in self.texts.items():
            self.assertRegex(text, r"\A[ -~\n]*\Z", name)
            rows = text.split("\n")
            self.assertLessEqual(len(rows), 400, name)
            self.assertLessEqual(max(len(row) for row in rows), 120, name)
            for node in walk(self.trees[name], ast.FunctionDef):
                self.assertLessEqual(node.end_lineno - node.lineno + 1, 40, node.name)

    def test_words(self):
        for name, text in self.texts.items():
            self.assertEqual(set(re.findall(r"\w+", text)) & set(RULED_OUT_WORDS), set(), name)
            self.assertIsNone(re.search("dataclass|overload|contextmanager", text), name)

    def test_nodes(self):
        for name, tree in self.trees.items():
            kinds = {type(node).__name__ for node in ast.walk(tree)}
            self.assertEqual(kinds - set(ALLOWED_NODES), set(), name)
            for node in walk(tree, ast.Constant):
                self.assertIn(type(node.value), (int, str, bool, type(None)), name)
            for node in walk(tree, ast.FunctionDef, ast.ClassDef):
                self.assertEqual(node.decorator_list, [], node.name)
            for node in walk(tree, ast.Assign):
                self.assertEqual(len(node.targets), 1)
                self.assertNotIsInstance(node.targets[0], (ast.Tuple, ast.List))
            for node in walk(tree, ast.For, ast.While):
                self.assertEqual(node.orelse, [])
            for node in walk(tree, ast.Expr):
                self.assertTrue(node == tree.body[0] or isinstance(node.value, ast.Call), name)

    def test_names(self):
        for name, tree in self.trees.items():
            bound = bound_names(tree)
            for bound_name in bound:
                self.assertTrue(bound_name == "__init__" or not bound_name.startswith("_"), bound_name)
            plain = [given for given in bound if given not in self.method_names()]
            self.assertEqual(set(plain) & set(dir(builtins)), set(), name)
            read = {node.id for node in walk(tree, ast.Name)}
            self.assertEqual(read - set(bound) - set(ALLOWED_BUILTINS), set(), name)
            self.assertEqual(len(top_names(tree)), len(set(top_names(tree))), name)

    def method_names(self):
        classes = [node for tree in self.trees.values() for node in walk(tree, ast.ClassDef)]
        return [node.name for owner in classes for node in owner.body if isinstance(node, ast.FunctionDef)]

    def test_methods(self):
        own = self.method_names()
        values = []
        for tree in self.trees.values():
            for node in walk(tree, ast.Call):
                if isinstance(node.func, ast.Attribute):
                    self.assertIn(node.func.attr, own + ALLOWED_METHODS)
            values += [node.attr for node in walk(tree, ast.Attribute) if isinstance(node.ctx, ast.Store)]
        self.assertEqual(set(own) & set(values), set())

    def test_imports(self):
        drawn = {}
        for name, tree in self.trees.items():
            drawn[name] = []
            for node in walk(tree, ast.ImportFrom):
                self.assertIn(node, tree.body)
                self.assertEqual(node.level, 0)
                package, module = node.module.split(".")
                self.assertEqual(package, "oneaddress")
                for alias in node.names:
                    self.assertIn(alias.name, top_names(self.trees[module]))
                drawn[name].append(module)
        while drawn:
            free = [name for name in drawn if not set(drawn[name]) & set(drawn)]
            self.assertNotEqual(free, [], "files draw from one another")
            drawn = {name: drawn[name] for name in drawn if name not in free}

    def test_the_top_of_a_file(self):
        for name, tree in self.trees.items():
            self.assertTrue(ast.get_docstring(tree), name)
            for node in tree.body[1:]:
                self.assertIsInstance(node, (ast.ImportFrom, ast.Assign, ast.FunctionDef, ast.ClassDef))
                if isinstance(node, ast.Assign):
                    ast.literal_eval(node.value)
