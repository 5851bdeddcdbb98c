"""The form of the package's own files: what of LANGUAGE.md can be seen by reading them."""

import ast
import builtins
import pathlib
import re
import unittest

PACKAGE = pathlib.Path(__file__).resolve().parent.parent / "fieldsurface"
FILES = sorted(path for path in PACKAGE.rglob("*") if "__pycache__" not in path.parts)

NODES = """Module Expr Constant ImportFrom alias FunctionDef ClassDef arguments arg Assign AugAssign If While For Return
Break Continue Pass Raise Try ExceptHandler Lambda List Tuple Dict Set Name Attribute Subscript Slice Call keyword
BinOp UnaryOp BoolOp Compare IfExp ListComp comprehension JoinedStr FormattedValue Load Store Add Sub Mult FloorDiv Mod
Pow LShift RShift BitOr BitXor BitAnd Invert Not USub UAdd And Or Eq NotEq Lt LtE Gt GtE Is IsNot In NotIn""".split()
BUILTINS = """len range enumerate zip min max sum abs sorted reversed int str bool list tuple dict set frozenset
isinstance ord repr any all divmod Exception ValueError TypeError KeyError IndexError LookupError ZeroDivisionError
ArithmeticError OverflowError RuntimeError NotImplementedError AttributeError StopIteration""".split()
METHODS = """append clear copy count endswith extend find get index insert isalnum isalpha isdigit islower isspace
isupper items join keys ljust lower lstrip partition pop remove replace reverse rfind rjust rpartition rsplit rstrip
setdefault split splitlines startswith strip update upper values zfill bit_length""".split()
WORDS = """type typing typing_extensions enum Enum IntEnum StrEnum Flag IntFlag Generic Protocol ABC ABCMeta namedtuple
NamedTuple TypedDict TYPE_CHECKING abstractmethod""".split()


def nodes_of(path, *kinds):
    return [node for node in ast.walk(ast.parse(path.read_text())) if isinstance(node, kinds)]


def bound_names(path):
    names = [node.name for node in nodes_of(path, ast.FunctionDef, ast.ClassDef)]
    names += [node.arg for node in nodes_of(path, ast.arg)]
    names += [node.id for node in nodes_of(path, ast.Name) if isinstance(node.ctx, ast.Store)]
    return names


def stored_attributes(path):
    return [node.attr for node in nodes_of(path, ast.Attribute) if isinstance(node.ctx, ast.Store)]


def own_methods(path):
    return [method.name for owner in nodes_of(path, ast.ClassDef) for method in owner.body
            if isinstance(method, ast.FunctionDef)]


class TestLanguage(unittest.TestCase):
    def test_files(self):
        self.assertIn(PACKAGE / "__init__.py", FILES)
        self.assertIn(PACKAGE / "desk.py", FILES)
        for path in FILES:
            self.assertRegex(path.name, r"^([a-z][a-z0-9_]*|__init__)\.py$")
            self.assertNotIn(path.stem, dir(builtins))

    def test_signs_and_sizes(self):
        for path in FILES:
            text = path.read_bytes().decode("ascii")
            lines = text.split("\n")
            self.assertRegex(text, r"\A[ -~\n]*\n\Z")
            self.assertLessEqual(len(lines), 400)
            self.assertLessEqual(max(len(line) for line in lines), 120)
            for node in nodes_of(path, ast.FunctionDef):
                self.assertLessEqual(node.end_lineno - node.lineno + 1, 40, node.name)

    def test_words(self):
        for path in FILES:
            text = path.read_text()
            self.assertEqual([word for word in WORDS if re.search(rf"\b{word}\b", text)], [])
            self.assertIsNone(re.search("dataclass|overload|contextmanager", text))

    def test_statements_and_expressions(self):
        for path in FILES:
            for node in nodes_of(path, ast.AST):
                self.assertIn(node.__class__.__name__, NODES, f"{path.name}:{getattr(node, 'lineno', 0)}")
            for node in nodes_of(path, ast.Constant):
                self.assertIn(node.value.__class__, (int, str, bool, None.__class__))
            for node in nodes_of(path, ast.Assign):
                self.assertEqual(len(node.targets), 1)
            for node in nodes_of(path, ast.FunctionDef, ast.ClassDef):
                self.assertEqual(node.decorator_list, [])
            for node in nodes_of(path, ast.For, ast.While):
                self.assertEqual(node.orelse, [])

    def test_imports(self):
        for path in FILES:
            for node in nodes_of(path, ast.ImportFrom):
                self.assertEqual(node.level, 0)
                source = PACKAGE.parent.joinpath(*node.module.split(".")).with_suffix(".py")
                self.assertIn(source, FILES)
                for alias in node.names:
                    self.assertIn(alias.name, bound_names(source))

    def test_names(self):
        for path in FILES:
            known = set(dir(builtins))
            for name in bound_names(path) + stored_attributes(path):
                self.assertRegex(name, r"^([A-Za-z][A-Za-z0-9_]*|__(init|eq|repr|str|len)__)$")
                self.assertNotIn(name, known)
            read = {node.id for node in nodes_of(path, ast.Name)}
            self.assertEqual(sorted(name for name in read & known if name not in BUILTINS), [])

    def test_methods(self):
        methods = {name for path in FILES for name in own_methods(path)}
        kept = {name for path in FILES for name in stored_attributes(path)}
        self.assertEqual(sorted(methods & kept), [])
        for path in FILES:
            for node in nodes_of(path, ast.Call):
                if isinstance(node.func, ast.Attribute):
                    self.assertIn(node.func.attr, methods | set(METHODS))

    def test_names_of_imports_and_classes_are_bound_once(self):
        for path in FILES:
            imports = [alias.name for node in nodes_of(path, ast.ImportFrom) for alias in node.names]
            classes = [node.name for node in nodes_of(path, ast.ClassDef)]
            bound = bound_names(path) + imports
            self.assertEqual([name for name in imports + classes if bound.count(name) > 1], [])

    def test_own_methods_and_values_are_called_otherwise_than_pythons(self):
        known = {name for kind in (str, int, list, tuple, dict, set, bytes) for name in dir(kind)}
        for path in FILES:
            own = {name for name in own_methods(path) + stored_attributes(path) if name != "__init__"}
            self.assertEqual(sorted(own & known), [])

    def test_sets_are_not_walked(self):
        for path in FILES:
            self.assertEqual([node.lineno for node in nodes_of(path, ast.Set)], [])
            self.assertEqual([node.lineno for node in nodes_of(path, ast.Name) if node.id in ("set", "frozenset")], [])
