"""The package's files keep to the part of Python that is allowed, as far as a reader of their trees can see."""

import ast
import re
import unittest
from pathlib import Path

PACKAGE = Path(__file__).resolve().parent.parent / "endingwork"
FILES = sorted(PACKAGE.glob("*.py"))

NODES = """
Module Expr Assign AugAssign If While For Return Break Continue Pass Raise Try ExceptHandler FunctionDef ClassDef
ImportFrom alias arguments arg Lambda Constant Name Attribute Subscript Slice Call keyword List Tuple Dict
ListComp comprehension BinOp UnaryOp BoolOp Compare IfExp JoinedStr FormattedValue Load Store
Add Sub Mult FloorDiv Mod Pow BitAnd BitOr BitXor LShift RShift Invert Not USub UAdd And Or
Eq NotEq Lt LtE Gt GtE In NotIn Is IsNot
""".split()
OWN_NAMES = """
len range enumerate zip min max sum abs sorted reversed int str bool list tuple dict set isinstance ord repr any all
divmod ValueError KeyError IndexError LookupError ZeroDivisionError ArithmeticError OverflowError RuntimeError
NotImplementedError StopIteration Exception
""".split()
BUILT_IN = dir(__builtins__) if not isinstance(__builtins__, dict) else list(__builtins__)
METHODS = """
append clear copy count endswith extend find get index insert isalnum isalpha isdigit islower isspace isupper items
join keys ljust lower lstrip partition pop remove replace reverse rfind rjust rpartition rsplit rstrip setdefault split
splitlines startswith strip update upper values zfill bit_length
""".split()
WORDS = re.compile(
    r"\b(type|typing|typing_extensions|enum|Enum|IntEnum|StrEnum|Flag|IntFlag|Generic|Protocol|ABC|ABCMeta|namedtuple"
    r"|NamedTuple|TypedDict|TYPE_CHECKING|abstractmethod)\b|dataclass|overload|contextmanager")
NOWHERE = "register mro elements open input version_info with_traceback add_note format format_map".split()
DOUBLE_UNDERSCORED = "__init__ __eq__ __repr__ __str__ __len__".split()


def trees():
    return [(path.name, ast.parse(path.read_text(encoding="utf-8"))) for path in FILES]


def nodes(*kinds):
    return [(f"{name}:{node.lineno}", node) for name, tree in trees() for node in ast.walk(tree)
            if isinstance(node, kinds)]


def bound_names():
    """Every name that the package binds, with where."""
    return ([(at, node.id) for at, node in nodes(ast.Name) if isinstance(node.ctx, ast.Store)]
            + [(at, node.name) for at, node in nodes(ast.FunctionDef, ast.ClassDef)]
            + [(at, node.arg) for at, node in nodes(ast.arg)]
            + [(at, node.attr) for at, node in nodes(ast.Attribute) if isinstance(node.ctx, ast.Store)])


class Language(unittest.TestCase):
    def test_there_are_files_and_nothing_else(self):
        self.assertIn(PACKAGE / "order.py", FILES)
        self.assertIn(PACKAGE / "__init__.py", FILES)
        others = [path for path in PACKAGE.iterdir() if path not in FILES and path.name != "__pycache__"]
        self.assertEqual(others, [])
        for path in FILES:
            self.assertRegex(path.name, r"^(__init__|[a-z][a-z0-9_]*)\.py$")

    def test_signs_and_sizes(self):
        for path in FILES:
            text = path.read_bytes().decode("ascii")
            lines = text.split("\n")
            self.assertLessEqual(len(lines), 400, path.name)
            self.assertLessEqual(max(map(len, lines)), 120, path.name)
            self.assertEqual([sign for sign in text if sign != "\n" and not " " <= sign <= "~"], [], path.name)
            self.assertIsNone(WORDS.search(text), path.name)
        for at, node in nodes(ast.FunctionDef):
            self.assertLessEqual(node.end_lineno - node.lineno + 1, 40, at)

    def test_kinds_of_statement_and_expression(self):
        for name, tree in trees():
            for node in ast.walk(tree):
                self.assertIn(type(node).__name__, NODES, (name, getattr(node, "lineno", 0)))
        for at, node in nodes(ast.Constant):
            self.assertIn(type(node.value), (int, str, bool, type(None)), at)
        for at, node in nodes(ast.While, ast.For):
            self.assertEqual(node.orelse, [], at)
        for at, node in nodes(ast.Assign):
            self.assertEqual(len(node.targets), 1, at)
        for at, node in nodes(ast.FunctionDef, ast.ClassDef):
            self.assertEqual(node.decorator_list, [], at)

    def test_imports(self):
        modules = [f"endingwork.{path.stem}" for path in FILES]
        for at, node in nodes(ast.ImportFrom):
            self.assertIn(node.module, modules, at)
            self.assertEqual(node.level, 0, at)
            self.assertTrue(all(alias.name != "*" and alias.asname is None for alias in node.names), at)

    def test_no_two_files_draw_from_one_another(self):
        drawn = {f"endingwork.{name[:-3]}": [node.module for node in ast.walk(tree) if isinstance(node, ast.ImportFrom)]
                 for name, tree in trees()}
        while drawn:
            free = [name for name, others in drawn.items() if not any(other in drawn for other in others)]
            self.assertNotEqual(free, [], drawn)
            drawn = {name: others for name, others in drawn.items() if name not in free}

    def test_no_local_is_called_like_an_import_or_a_class(self):
        for name, tree in trees():
            taken = [node.name for node in ast.walk(tree) if isinstance(node, (ast.alias, ast.ClassDef))]
            for function in [node for node in ast.walk(tree) if isinstance(node, ast.FunctionDef)]:
                local = [node.arg for node in ast.walk(function) if isinstance(node, ast.arg)]
                local += [node.id for node in ast.walk(function)
                          if isinstance(node, ast.Name) and isinstance(node.ctx, ast.Store)]
                self.assertEqual(sorted(set(local) & set(taken)), [], (name, function.name))

    def test_names(self):
        for at, name in bound_names():
            if name not in DOUBLE_UNDERSCORED:
                self.assertRegex(name, r"^[A-Za-z][A-Za-z0-9_]*$", at)
            self.assertNotIn(name, NOWHERE, at)
            self.assertNotIn(name, BUILT_IN, at)
        own = [name for _, name in bound_names()]
        for at, node in nodes(ast.Name):
            if node.id in BUILT_IN:
                self.assertIn(node.id, OWN_NAMES, at)
            self.assertNotIn(node.id, NOWHERE, at)
        for at, node in nodes(ast.Attribute):
            self.assertTrue(node.attr in own or node.attr in METHODS, (at, node.attr))
            self.assertNotIn(node.attr, NOWHERE, at)

    def test_no_name_is_a_method_and_a_value(self):
        methods = [part.name for _, node in nodes(ast.ClassDef) for part in node.body
                   if isinstance(part, ast.FunctionDef)]
        values = [node.attr for _, node in nodes(ast.Attribute) if isinstance(node.ctx, ast.Store)]
        self.assertEqual(sorted(set(methods) & set(values)), [])

    def test_is_stands_beside_none_true_and_false(self):
        for at, node in nodes(ast.Compare):
            if any(isinstance(sign, (ast.Is, ast.IsNot)) for sign in node.ops):
                self.assertIsInstance(node.comparators[-1], ast.Constant, at)
                self.assertIn(type(node.comparators[-1].value), (bool, type(None)), at)
