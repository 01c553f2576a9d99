"""The form of the package's code: the rules of the language that can be seen in a file alone."""

import ast
import builtins
import re
import unittest
from pathlib import Path

PACKAGE = Path(__file__).resolve().parent.parent / "litfires"
FILES = sorted(path for path in PACKAGE.rglob("*") if "__pycache__" not in path.parts)

NODES = set(
    "Module Expr Call Assign AugAssign If While For Return Break Continue Pass Raise Try ExceptHandler "
    "FunctionDef arguments arg ClassDef ImportFrom alias Constant List Tuple Dict BinOp Compare BoolOp "
    "UnaryOp IfExp Attribute Subscript Slice ListComp comprehension JoinedStr FormattedValue Name Load Store "
    "Lambda keyword Add Sub Mult FloorDiv Mod Pow LShift RShift BitOr BitAnd BitXor Invert USub Not And Or "
    "Eq NotEq Lt LtE Gt GtE In NotIn Is IsNot".split()
)
BUILT_IN = set(
    "len range enumerate zip min max sum abs sorted reversed int str bool list tuple dict set frozenset "
    "isinstance ord repr any all divmod Exception ValueError TypeError KeyError IndexError LookupError "
    "ZeroDivisionError ArithmeticError OverflowError RuntimeError NotImplementedError AttributeError "
    "StopIteration".split()
)
METHODS = set(
    "append clear copy count endswith extend find get index insert isalnum isalpha isdigit islower isspace "
    "isupper items join keys ljust lower lstrip partition pop remove replace reverse rfind rjust rpartition "
    "rsplit rstrip setdefault split splitlines startswith strip update upper values zfill bit_length".split()
)
UNSAID = (
    "type typing typing_extensions enum Enum IntEnum StrEnum Flag IntFlag Generic Protocol ABC ABCMeta "
    "namedtuple NamedTuple TypedDict TYPE_CHECKING abstractmethod"
).split()
PYTHONS_OWN = {name for kind in (str, int, list, dict, set, bytes, tuple) for name in dir(kind)}
ALLOWED_DUNDERS = {"__init__", "__eq__", "__repr__", "__str__", "__len__", "__all__", "__version__"}


def bound_names(tree):
    for node in ast.walk(tree):
        if isinstance(node, ast.Name) and isinstance(node.ctx, ast.Store):
            yield node.id
        elif isinstance(node, ast.arg):
            yield node.arg
        elif isinstance(node, (ast.FunctionDef, ast.ClassDef)):
            yield node.name
        elif isinstance(node, ast.alias):
            yield node.asname or node.name


class Form(unittest.TestCase):
    def trees(self):
        for path in FILES:
            text = path.read_text(encoding="utf-8")
            yield path.name, text, ast.parse(text)

    def test_files(self):
        self.assertIn(PACKAGE / "__init__.py", FILES)
        for path in FILES:
            self.assertTrue(path.is_file(), path)
            self.assertRegex(path.name, r"\A(__init__|[a-z][a-z0-9_]*)\.py\Z")
            self.assertNotIn(path.stem, dir(builtins))

    def test_signs_and_sizes(self):
        for name, text, tree in self.trees():
            self.assertEqual([sign for sign in text if sign != "\n" and not " " <= sign <= "~"], [], name)
            self.assertLessEqual(len(text.splitlines()), 400, name)
            self.assertLessEqual(max(len(line) for line in text.splitlines()), 120, name)
            for node in ast.walk(tree):
                if isinstance(node, ast.FunctionDef):
                    self.assertLessEqual(node.end_lineno - node.lineno + 1, 40, (name, node.name))

    def test_words_that_stand_nowhere(self):
        for name, text, tree in self.trees():
            for word in UNSAID:
                self.assertIsNone(re.search(rf"\b{word}\b", text), (name, word))
            self.assertIsNone(re.search("dataclass|overload|contextmanager", text), name)

    def test_nodes(self):
        for name, text, tree in self.trees():
            for node in ast.walk(tree):
                where = (name, getattr(node, "lineno", None))
                self.assertIn(node.__class__.__name__, NODES, where)
                if isinstance(node, (ast.FunctionDef, ast.ClassDef)):
                    self.assertEqual(node.decorator_list, [], where)
                if isinstance(node, (ast.For, ast.While)):
                    self.assertEqual(node.orelse, [], where)
                if isinstance(node, ast.Assign):
                    self.assertEqual(len(node.targets), 1, where)
                if isinstance(node, ast.Constant):
                    self.assertIn(type(node.value), (int, str, bool, type(None)), where)
                if isinstance(node, ast.ListComp):
                    self.assertEqual(len(node.generators), 1, where)
                    self.assertLessEqual(len(node.generators[0].ifs), 1, where)

    def test_statements_by_themselves_are_calls(self):
        for name, text, tree in self.trees():
            self.assertIsNotNone(ast.get_docstring(tree), name)
            for node in ast.walk(tree):
                if isinstance(node, ast.Expr) and node is not tree.body[0]:
                    self.assertIsInstance(node.value, ast.Call, (name, node.lineno))

    def test_imports(self):
        for name, text, tree in self.trees():
            for node in ast.walk(tree):
                if isinstance(node, ast.ImportFrom):
                    self.assertIn(node, tree.body, name)
                    self.assertEqual(node.level, 0, name)
                    self.assertRegex(node.module, r"\Alitfires\.[a-z]+\Z")
                    for alias in node.names:
                        self.assertIsNone(alias.asname)
                        source = ast.parse((PACKAGE / (node.module.split(".")[1] + ".py")).read_text())
                        own = [top.name for top in source.body if isinstance(top, (ast.FunctionDef, ast.ClassDef))]
                        self.assertIn(alias.name, own)

    def test_names(self):
        for name, text, tree in self.trees():
            bound = set(bound_names(tree))
            for word in bound:
                if word not in ALLOWED_DUNDERS:
                    self.assertRegex(word, r"\A[A-Za-z][A-Za-z0-9_]*\Z", name)
                    self.assertNotIn(word, dir(builtins), name)
            for node in ast.walk(tree):
                if isinstance(node, ast.Name) and node.id not in bound:
                    self.assertIn(node.id, BUILT_IN, (name, node.lineno))

    def test_no_local_is_called_like_an_import_or_a_class(self):
        for name, text, tree in self.trees():
            taken = {alias.name for node in tree.body if isinstance(node, ast.ImportFrom) for alias in node.names}
            taken |= {node.name for node in tree.body if isinstance(node, ast.ClassDef)}
            for node in ast.walk(tree):
                if isinstance(node, ast.FunctionDef):
                    self.assertEqual(taken & set(bound_names(node)), set(), (name, node.name))

    def test_what_is_walked_at_once_is_not_kept(self):
        for name, text, tree in self.trees():
            for node in ast.walk(tree):
                if isinstance(node, (ast.Assign, ast.Return)) and isinstance(node.value, ast.Call):
                    called = node.value.func
                    word = called.id if isinstance(called, ast.Name) else called.attr
                    walked = ("zip", "enumerate", "reversed", "range", "items", "keys", "values")
                    self.assertNotIn(word, walked, (name, node.lineno))

    def test_methods_and_values(self):
        for name, text, tree in self.trees():
            for node in ast.walk(tree):
                if isinstance(node, ast.Attribute) and node.attr in PYTHONS_OWN:
                    self.assertIn(node.attr, METHODS, (name, node.lineno))

    def test_the_top_of_a_file(self):
        for name, text, tree in self.trees():
            targets = []
            for node in tree.body[1:]:
                kinds = (ast.ImportFrom, ast.FunctionDef, ast.ClassDef, ast.Assign)
                self.assertIsInstance(node, kinds, (name, node.lineno))
                if isinstance(node, ast.Assign):
                    targets.append(node.targets[0].id)
            self.assertEqual(len(targets), len(set(targets)), name)


if __name__ == "__main__":
    unittest.main()
