"""The rules of LANGUAGE.md that can be seen in a file by itself."""

import ast
import builtins
import pathlib
import re
import unittest

PACKAGE = pathlib.Path(__file__).resolve().parent.parent / "sharedring"

STATEMENTS = (
    "Module FunctionDef arguments arg ClassDef Assign AugAssign If While For Return Break Continue Pass Raise Try "
    "ExceptHandler Expr ImportFrom alias")
EXPRESSIONS = (
    "Constant Name Load Store List Tuple Dict BinOp UnaryOp BoolOp Compare IfExp Call keyword Attribute Subscript "
    "Slice ListComp comprehension JoinedStr FormattedValue Lambda")
SIGNS = (
    "Add Sub Mult FloorDiv Mod Pow BitAnd BitOr BitXor LShift RShift Invert USub UAdd Not And Or Eq NotEq Lt LtE Gt "
    "GtE In NotIn Is IsNot")
NODES = set((STATEMENTS + " " + EXPRESSIONS + " " + SIGNS).split())
OWN_NAMES = set((
    "len range enumerate zip min max sum abs sorted reversed int str bool list tuple dict set frozenset isinstance "
    "ord repr any all divmod Exception ValueError TypeError KeyError IndexError LookupError ZeroDivisionError "
    "ArithmeticError OverflowError RuntimeError NotImplementedError AttributeError StopIteration").split())
METHODS = set((
    "append clear copy count endswith extend find get index insert isalnum isalpha isdigit islower isspace isupper "
    "items join keys ljust lower lstrip partition pop remove replace reverse rfind rjust rpartition rsplit rstrip "
    "setdefault split splitlines startswith strip update upper values zfill bit_length").split())
PYTHONS_NAMES = {name for name in dir(builtins) if not name.startswith("_")}
UNUSED_WORDS = (
    r"\b(type|typing|typing_extensions|enum|Enum|IntEnum|StrEnum|Flag|IntFlag|Generic|Protocol|ABC|ABCMeta|namedtuple"
    r"|NamedTuple|TypedDict|TYPE_CHECKING|abstractmethod)\b|dataclass|overload|contextmanager")


def bound_names(node):
    if isinstance(node, ast.Name) and isinstance(node.ctx, ast.Store):
        return [node.id]
    if isinstance(node, ast.arg):
        return [node.arg]
    if isinstance(node, (ast.FunctionDef, ast.ClassDef)):
        return [node.name]
    return []


class Language(unittest.TestCase):
    def setUp(self):
        self.files = sorted(path for path in PACKAGE.rglob("*") if "__pycache__" not in path.parts)
        self.trees = [(path.name, ast.parse(path.read_text())) for path in self.files]

    def nodes(self):
        return [(name, node) for name, tree in self.trees for node in ast.walk(tree)]

    def test_files(self):
        self.assertIn(PACKAGE / "ring.py", self.files)
        for path in self.files:
            self.assertRegex(path.name, r"^(__init__|[a-z][a-z0-9_]*)\.py$")
            self.assertNotIn(path.stem, PYTHONS_NAMES)

    def test_signs_words_and_sizes(self):
        for path in self.files:
            text = path.read_bytes().decode("utf-8")
            self.assertIsNone(re.search(r"[^ -~\n]", text), path.name)
            self.assertIsNone(re.search(UNUSED_WORDS, text), path.name)
            self.assertLessEqual(len(text.splitlines()), 400, path.name)
            self.assertLessEqual(max(len(row) for row in text.splitlines()), 120, path.name)

    def test_forms(self):
        for name, node in self.nodes():
            where = (name, getattr(node, "lineno", 0), type(node).__name__)
            self.assertIn(type(node).__name__, NODES, where)
            if isinstance(node, ast.FunctionDef):
                self.assertLessEqual(node.end_lineno - node.lineno + 1, 40, where)
                self.assertEqual((node.decorator_list, node.returns), ([], None), where)
            if isinstance(node, (ast.While, ast.For)):
                self.assertEqual(node.orelse, [], where)
            if isinstance(node, ast.Assign):
                self.assertEqual(len(node.targets), 1, where)
            if isinstance(node, ast.Constant):
                self.assertIn(type(node.value), (int, str, bool, type(None)), where)

    def test_imports(self):
        for name, node in self.nodes():
            if isinstance(node, ast.ImportFrom):
                self.assertEqual(node.level, 0, name)
                self.assertTrue((PACKAGE / (node.module.partition(".")[2] + ".py")).is_file(), (name, node.module))

    def test_names(self):
        for name, node in self.nodes():
            for bound in bound_names(node):
                self.assertRegex(bound, r"^([A-Za-z][A-Za-z0-9_]*|__init__)$", name)
                self.assertNotIn(bound, PYTHONS_NAMES, name)
            if isinstance(node, ast.Name) and node.id in PYTHONS_NAMES:
                self.assertIn(node.id, OWN_NAMES, (name, node.lineno))

    def test_methods_of_pythons_own(self):
        own = {node.name for _, node in self.nodes() if isinstance(node, ast.FunctionDef)}
        for name, node in self.nodes():
            if isinstance(node, ast.Call) and isinstance(node.func, ast.Attribute):
                self.assertIn(node.func.attr, METHODS | own, (name, node.lineno))


if __name__ == "__main__":
    unittest.main()
