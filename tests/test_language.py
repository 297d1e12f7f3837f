"""The package's own files keep to the part of Python that it is written in, as far as a test can see it."""

import ast
import builtins
import pathlib
import re
import unittest

PACKAGE = pathlib.Path(__file__).resolve().parent.parent / "levelforms"

OWN_NAMES = set("""len range enumerate zip min max sum abs sorted reversed int str bool list tuple dict set frozenset
isinstance ord repr any all divmod Exception ValueError TypeError KeyError IndexError LookupError ZeroDivisionError
ArithmeticError OverflowError RuntimeError NotImplementedError AttributeError StopIteration""".split())

METHODS = set("""append clear copy count endswith extend find get index insert isalnum isalpha isdigit islower isspace
isupper items join keys ljust lower lstrip partition pop remove replace reverse rfind rjust rpartition rsplit rstrip
setdefault split splitlines startswith strip update upper values zfill bit_length""".split())

BANNED_WORDS = re.compile(r"\b(type|typing|typing_extensions|enum|Enum|IntEnum|StrEnum|Flag|IntFlag|Generic|Protocol|"
                          r"ABC|ABCMeta|namedtuple|NamedTuple|TypedDict|TYPE_CHECKING|abstractmethod)\b"
                          r"|dataclass|overload|contextmanager")

ALLOWED_NODES = set("""Module ImportFrom alias FunctionDef ClassDef arguments arg Assign AugAssign If While For Return
Break Continue Pass Raise Try ExceptHandler Expr Name Load Store Constant List Tuple Dict BinOp UnaryOp BoolOp Compare
IfExp Call keyword Attribute Subscript Slice ListComp comprehension Lambda JoinedStr FormattedValue Add Sub Mult
FloorDiv Mod Pow BitAnd BitOr BitXor LShift RShift Invert Not USub And Or Eq NotEq Lt LtE Gt GtE Is IsNot In NotIn""".split())


def nodes_of(tree, *kinds):
    return [node for node in ast.walk(tree) if isinstance(node, kinds)]


class Language(unittest.TestCase):
    def files(self):
        found = sorted(path for path in PACKAGE.iterdir() if path.name != "__pycache__")
        self.assertIn(PACKAGE / "__init__.py", found)
        self.assertIn(PACKAGE / "house.py", found)
        for path in found:
            self.assertRegex(path.name, r"^[a-z0-9_]+\.py$")
            yield path, path.read_bytes().decode("ascii")

    def test_signs_sizes_and_words(self):
        for path, text in self.files():
            rows = text.split("\n")
            self.assertLessEqual(len(rows), 401, path)
            self.assertTrue(all(len(row) <= 120 for row in rows), path)
            self.assertTrue(all(" " <= sign <= "~" or sign == "\n" for sign in text), path)
            self.assertIsNone(BANNED_WORDS.search(text), path)

    def test_nothing_but_the_package_is_imported(self):
        for path, text in self.files():
            for node in nodes_of(ast.parse(text), ast.Import, ast.ImportFrom):
                self.assertIsInstance(node, ast.ImportFrom, path)
                self.assertTrue(node.level == 0 and node.module.startswith("levelforms."), path)

    def test_statements_and_expressions(self):
        for path, text in self.files():
            tree = ast.parse(text)
            for node in ast.walk(tree):
                self.assertIn(node.__class__.__name__, ALLOWED_NODES, (path, getattr(node, "lineno", 0)))
            for node in nodes_of(tree, ast.Constant):
                self.assertIsInstance(node.value, (int, str, bool, None.__class__), path)
            for node in nodes_of(tree, ast.FunctionDef):
                self.assertLessEqual(node.end_lineno - node.lineno + 1, 40, (path, node.name))
                self.assertEqual((node.decorator_list, node.args.vararg, node.args.kwarg, node.args.kwonlyargs),
                                 ([], None, None, []), (path, node.name))
            for node in nodes_of(tree, ast.For, ast.While):
                self.assertEqual(node.orelse, [], path)

    def test_names_and_methods(self):
        trees = [ast.parse(text) for path, text in self.files()]
        bound, methods = set(), set()
        for tree in trees:
            bound |= {node.id for node in nodes_of(tree, ast.Name) if isinstance(node.ctx, ast.Store)}
            bound |= {node.arg for node in nodes_of(tree, ast.arg)}
            bound |= {node.name for node in nodes_of(tree, ast.FunctionDef, ast.ClassDef)}
            for owner in nodes_of(tree, ast.ClassDef):
                methods |= {node.name for node in nodes_of(owner, ast.FunctionDef)}
        self.assertEqual(bound & (set(dir(builtins)) | OWN_NAMES), set())
        for tree in trees:
            read = {node.id for node in nodes_of(tree, ast.Name) if isinstance(node.ctx, ast.Load)}
            self.assertEqual(read - bound - OWN_NAMES, set())
            called = {node.func.attr for node in nodes_of(tree, ast.Call) if isinstance(node.func, ast.Attribute)}
            self.assertEqual(called - methods - METHODS, set())
