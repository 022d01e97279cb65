"""Holds the package's own files to the part of Python that it keeps to."""

import ast
import builtins
import pathlib
import re
import unittest

PACKAGE = pathlib.Path(__file__).resolve().parent.parent / "pagefiles"
CALLS = ("page judge look read sizes file open_of rows entry check pack unpack").split()
NODES = ("Module Import ImportFrom alias FunctionDef arguments arg Assign AugAssign If While For Return Break Continue "
         "Pass Raise Try ExceptHandler Expr Constant Name Load Store List Tuple Dict BinOp UnaryOp BoolOp Compare IfExp "
         "Call Attribute Subscript Slice ListComp comprehension Lambda ClassDef keyword JoinedStr FormattedValue Add Sub "
         "Mult FloorDiv Mod Pow BitAnd BitOr BitXor LShift RShift Invert Not USub And Or Eq NotEq Lt LtE Gt GtE In NotIn "
         "Is IsNot").split()
OWN_NAMES = ("len range enumerate zip min max sum abs sorted reversed int str bool list tuple dict set frozenset "
             "isinstance ord repr any all divmod Exception").split()
METHODS = ("append clear copy count endswith extend find get index insert isalnum isalpha isdigit islower isspace isupper "
           "items join keys ljust lower lstrip partition pop remove replace reverse rfind rjust rpartition rsplit rstrip "
           "setdefault split splitlines startswith strip update upper values zfill bit_length").split()
WORDS = re.compile(r"\b(type|typing|typing_extensions|enum|Enum|IntEnum|StrEnum|Flag|IntFlag|Generic|Protocol|ABC|ABCMeta|"
                   r"namedtuple|NamedTuple|TypedDict|TYPE_CHECKING|abstractmethod)\b|dataclass|overload|contextmanager")


def files():
    return sorted(path for path in PACKAGE.rglob("*") if "__pycache__" not in path.parts)


def trees():
    return [(path, ast.parse(path.read_text())) for path in files()]


def own_values():
    """The names of values that the package's own objects keep."""
    return {node.attr for _, tree in trees() for node in ast.walk(tree)
            if isinstance(node, ast.Attribute) and isinstance(node.ctx, ast.Store)}


def taken_by_python():
    return {name for of in ("", 0, [], (), {}, set(), b"", Exception()) for name in dir(of)}


def drawn_from():
    """Of each file the files that it draws from."""
    return {f"pagefiles.{path.stem}": [node.module for node in tree.body if isinstance(node, ast.ImportFrom)]
            for path, tree in trees()}


class Language(unittest.TestCase):
    def test_files(self):
        self.assertIn(PACKAGE / "__init__.py", files())
        for path in files():
            self.assertRegex(path.name, r"^[a-z0-9_]+\.py$")
            text = path.read_text()
            self.assertTrue(all(sign == "\n" or " " <= sign <= "~" for sign in text), path)
            self.assertLess(len(text.splitlines()), 400)
            self.assertTrue(all(len(line) <= 120 for line in text.splitlines()), path)
            self.assertIsNone(WORDS.search(text), path)

    def test_nodes(self):
        for path, tree in trees():
            for node in ast.walk(tree):
                self.assertIn(node.__class__.__name__, NODES, path)
                if isinstance(node, ast.FunctionDef):
                    self.assertLessEqual(node.end_lineno - node.lineno + 1, 40)
                    self.assertEqual(node.args.defaults + node.decorator_list, [])
                if isinstance(node, ast.Assign):
                    self.assertEqual(len(node.targets), 1)
                if isinstance(node, ast.Expr) and node is not tree.body[0]:
                    self.assertIsInstance(node.value, ast.Call)
                if isinstance(node, ast.ImportFrom):
                    self.assertTrue(node.module.startswith("pagefiles."), path)
                if isinstance(node, ast.Attribute):
                    self.assertIn(node.attr, METHODS + sorted(own_values()), path)
                if isinstance(node, ast.ClassDef):
                    self.assertIn(node, tree.body, path)
                    self.assertEqual([part.__class__ for part in node.body], [ast.FunctionDef], path)
                    self.assertEqual(node.body[0].name, "__init__", path)
                    self.assertIn([base.id for base in node.bases], [[], ["Exception"]], path)

    def test_values_of_objects(self):
        self.assertEqual(own_values() & taken_by_python(), set())

    def test_names(self):
        for path, tree in trees():
            imported = [a.name for node in tree.body if isinstance(node, ast.ImportFrom) for a in node.names]
            for node in ast.walk(tree):
                if isinstance(node, ast.Name):
                    self.assertFalse(node.id.startswith("_"), path)
                    if hasattr(builtins, node.id):
                        self.assertIn(node.id, OWN_NAMES, path)
                        self.assertIsInstance(node.ctx, ast.Load, path)
                    if isinstance(node.ctx, ast.Store):
                        self.assertNotIn(node.id, imported, path)
                if isinstance(node, ast.arg):
                    self.assertFalse(hasattr(builtins, node.arg), path)
                    self.assertNotIn(node.arg, imported, path)

    def test_imports(self):
        defined = {}
        for path, tree in trees():
            defined[f"pagefiles.{path.stem}"] = [
                name for node in tree.body for name in
                ([node.name] if isinstance(node, (ast.FunctionDef, ast.ClassDef)) else
                 [target.id for target in node.targets] if isinstance(node, ast.Assign) else [])]
        for path, tree in trees():
            for node in tree.body:
                if isinstance(node, ast.ImportFrom):
                    for name in node.names:
                        self.assertIn(name.name, defined[node.module], path)

    def test_no_two_files_draw_from_one_another(self):
        left = drawn_from()
        while left:
            free = [name for name, sources in left.items() if not any(source in left for source in sources)]
            self.assertTrue(free, sorted(left))
            left = {name: sources for name, sources in left.items() if name not in free}

    def test_calls_are_defined_in_pages_alone(self):
        for path, tree in trees():
            defined = [node.name for node in tree.body if isinstance(node, (ast.FunctionDef, ast.ClassDef))]
            self.assertEqual(len(defined), len(set(defined)))
            if path.name != "pages.py":
                self.assertEqual([name for name in defined if name in CALLS], [])
