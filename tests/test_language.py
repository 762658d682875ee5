"""The package's own files keep to the plain part of Python that they are written in."""

import ast
import pathlib
import re
import unittest

PACKAGE = pathlib.Path(__file__).resolve().parent.parent / "fallingground"

FORMS = """Module Expr Constant ImportFrom alias FunctionDef ClassDef arguments arg Lambda Return Assign AugAssign
If While For Break Continue Pass Raise Try ExceptHandler Name Load Store Attribute Subscript Slice Call keyword
List Tuple Dict BinOp UnaryOp BoolOp Compare IfExp ListComp comprehension JoinedStr FormattedValue
Add Sub Mult FloorDiv Mod Pow BitAnd BitOr BitXor LShift RShift Invert USub And Or Not
Eq NotEq Lt LtE Gt GtE Is IsNot In NotIn""".split()

OF_PYTHON = """len range enumerate zip min max sum abs sorted reversed int str bool list tuple dict set isinstance
ord repr any all divmod Exception ValueError KeyError IndexError LookupError ZeroDivisionError""".split()

METHODS = """append clear copy count endswith extend find get index insert items join keys pop remove replace reverse
setdefault split update values bit_length""".split()

WORDS = """type typing typing_extensions enum Enum IntEnum StrEnum Flag IntFlag Generic Protocol ABC ABCMeta namedtuple
NamedTuple TypedDict TYPE_CHECKING abstractmethod""".split()

NOT_NAMES = """register mro elements open input print eval exec compile vars id dir getattr setattr hasattr super help
globals locals hash map filter next iter object bytes float format callable property""".split()

WALKS = "range zip enumerate reversed items keys values".split()
WALKERS = "list tuple dict sorted sum any all enumerate zip min max".split()


def files():
    return sorted(path for path in PACKAGE.rglob("*") if path.is_file() and "__pycache__" not in path.parts)


def trees():
    return [(path, ast.parse(path.read_text("ascii"))) for path in files()]


def bound_names(tree):
    """What a file's own code binds: names, parameters, functions, classes and imports."""
    for node in ast.walk(tree):
        if isinstance(node, ast.Name) and isinstance(node.ctx, ast.Store):
            yield node.id
        elif isinstance(node, ast.arg):
            yield node.arg
        elif isinstance(node, (ast.FunctionDef, ast.ClassDef, ast.alias)):
            yield node.name


def called(node):
    """The name of what is called, None where nothing is."""
    if isinstance(node, ast.Call):
        return node.func.id if isinstance(node.func, ast.Name) else getattr(node.func, "attr", None)
    return None


class Files(unittest.TestCase):
    def test_names(self):
        for path in files():
            self.assertEqual(path.parent, PACKAGE)
            self.assertRegex(path.name, r"^([a-z][a-z0-9_]*|__init__)\.py$")
            self.assertNotRegex(path.name, r"^test")
        self.assertTrue((PACKAGE / "__init__.py").is_file())

    def test_size_and_signs(self):
        for path in files():
            content = path.read_text("ascii")
            self.assertNotRegex(content, r"[^ -~\n]", path)
            lines = content.split("\n")
            self.assertLess(len(lines), 400, path)
            self.assertLessEqual(max(len(line) for line in lines), 120, path)
            for word in re.findall(r"\w+", content):
                self.assertNotIn(word, WORDS, path)
            self.assertNotRegex(content, "dataclass|overload|contextmanager", path)


class Code(unittest.TestCase):
    def test_forms(self):
        for path, tree in trees():
            for node in ast.walk(tree):
                self.assertIn(node.__class__.__name__, FORMS, (path, getattr(node, "lineno", 0)))
                if isinstance(node, (ast.While, ast.For)):
                    self.assertEqual(node.orelse, [], path)
                if isinstance(node, ast.Assign):
                    self.assertEqual(len(node.targets), 1, path)
                if isinstance(node, ast.FunctionDef):
                    self.assertLessEqual(node.end_lineno - node.lineno + 1, 40, (path, node.name))
                    self.assertEqual(node.decorator_list, [], path)
                    self.assertIsNotNone(ast.get_docstring(node) or node.name == "__init__", path)

    def test_imports(self):
        for path, tree in trees():
            for node in ast.walk(tree):
                if isinstance(node, ast.ImportFrom):
                    self.assertEqual(node.level, 0, path)
                    self.assertRegex(node.module, r"^fallingground\.[a-z]+$")
                    source = ast.parse((PACKAGE / (node.module.split(".")[1] + ".py")).read_text())
                    tops = [name for part in source.body if not isinstance(part, ast.ImportFrom)
                            for name in bound_names(part)]
                    for alias in node.names:
                        self.assertIn(alias.name, tops, path)

    def test_names(self):
        for path, tree in trees():
            for name in bound_names(tree):
                self.assertRegex(name, r"^([A-Za-z][A-Za-z0-9_]*|__init__)$", path)
                self.assertNotIn(name, OF_PYTHON + NOT_NAMES, path)

    def test_only_known_names_are_read(self):
        own = {name for path, tree in trees() for name in bound_names(tree)}
        methods = own | set(METHODS)
        for path, tree in trees():
            for node in ast.walk(tree):
                if isinstance(node, ast.Name):
                    self.assertIn(node.id, own | set(OF_PYTHON) | {"self"}, path)
                if isinstance(node, ast.Call) and isinstance(node.func, ast.Attribute):
                    self.assertIn(node.func.attr, methods, path)

    def test_walks_are_walked_at_once(self):
        for path, tree in trees():
            walked = [node.iter for node in ast.walk(tree) if isinstance(node, (ast.For, ast.comprehension))]
            walked += [node.args[0] for node in ast.walk(tree) if called(node) in WALKERS and node.args]
            for node in ast.walk(tree):
                if called(node) in WALKS:
                    self.assertIn(node, walked, (path, node.lineno))

    def test_nothing_within_a_function_is_called_like_an_import_or_a_class(self):
        for path, tree in trees():
            tops = [name for part in tree.body if isinstance(part, (ast.ImportFrom, ast.ClassDef))
                    for name in bound_names(part) if isinstance(part, ast.ImportFrom) or name == part.name]
            self.assertEqual(len(tops), len(set(tops)), path)
            for node in ast.walk(tree):
                if isinstance(node, ast.FunctionDef):
                    inner = [name for part in node.body + [node.args] for name in bound_names(part)]
                    self.assertFalse(set(tops) & set(inner), (path, node.name))
