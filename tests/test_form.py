"""The package keeps to the small part of Python it is written in, and imports nothing."""

import ast
import builtins
import pathlib
import re
import unittest

import evenwords

FOLDER = pathlib.Path(evenwords.__file__).parent

NODES = set(
    "Module FunctionDef arguments arg Assign AugAssign If While For Return Break Continue Pass Raise Try"
    " ExceptHandler Expr Call Name Load Store Constant List Tuple Dict Subscript Slice Attribute ListComp"
    " comprehension BinOp UnaryOp BoolOp Compare IfExp JoinedStr FormattedValue Lambda keyword ClassDef"
    " Add Sub Mult FloorDiv Mod Pow LShift RShift BitAnd BitOr BitXor Invert USub UAdd Not And Or"
    " Eq NotEq Lt LtE Gt GtE Is IsNot In NotIn".split()
)
OWN_NAMES = set(
    "len range enumerate zip min max sum abs sorted reversed int str bool list tuple dict set frozenset"
    " isinstance ord repr any all divmod Exception ValueError TypeError KeyError IndexError LookupError"
    " ZeroDivisionError ArithmeticError OverflowError RuntimeError NotImplementedError StopIteration".split()
)
METHODS = set(
    "append clear copy count endswith extend find get index insert isalnum isalpha isdigit islower isspace"
    " isupper items join keys ljust lower lstrip partition pop remove replace reverse rfind rjust rpartition"
    " rsplit rstrip setdefault split splitlines startswith strip update upper values zfill bit_length".split()
)
WORDS_NOWHERE = re.compile(
    r"\b(type|typing|typing_extensions|enum|Enum|IntEnum|StrEnum|Flag|IntFlag|Generic|Protocol|ABC|ABCMeta"
    r"|namedtuple|NamedTuple|TypedDict|TYPE_CHECKING|abstractmethod)\b|dataclass|overload|contextmanager"
)


def files():
    return sorted(path for path in FOLDER.rglob("*") if "__pycache__" not in path.parts)


def trees():
    return [(path.name, ast.parse(path.read_text("utf-8"))) for path in files()]


def bound_names(tree):
    """Each name that a file gives a meaning to, with its row."""
    for node in ast.walk(tree):
        if isinstance(node, ast.arg):
            yield node.arg, node.lineno
        elif isinstance(node, ast.Name) and isinstance(node.ctx, ast.Store):
            yield node.id, node.lineno
        elif isinstance(node, (ast.FunctionDef, ast.ClassDef)):
            yield node.name, node.lineno


class Form(unittest.TestCase):
    def test_files(self):
        self.assertEqual([path.name for path in files()], ["__init__.py", "desk.py"])

    def test_signs_and_sizes(self):
        for path in files():
            data = path.read_bytes()
            self.assertTrue(all(sign == 10 or 32 <= sign <= 126 for sign in data), path.name)
            rows = data.decode("ascii").split("\n")
            self.assertLessEqual(len(rows), 401, path.name)
            self.assertLessEqual(max(len(row) for row in rows), 120, path.name)
            self.assertIsNone(WORDS_NOWHERE.search(data.decode("ascii")), path.name)

    def test_functions_are_short_and_plain(self):
        for name, tree in trees():
            for node in ast.walk(tree):
                if isinstance(node, ast.FunctionDef):
                    self.assertLessEqual(node.end_lineno - node.lineno + 1, 40, (name, node.name))
                    self.assertEqual(node.decorator_list, [], (name, node.name))
                    given = node.args
                    self.assertFalse(given.vararg or given.kwarg or given.kwonlyargs or given.posonlyargs)

    def test_nothing_is_imported_and_no_other_form_is_used(self):
        for name, tree in trees():
            for node in ast.walk(tree):
                where = (name, getattr(node, "lineno", 0))
                self.assertIn(node.__class__.__name__, NODES, where)
                if isinstance(node, ast.Constant):
                    self.assertTrue(node.value is None or isinstance(node.value, (int, str)), where)
                if isinstance(node, (ast.For, ast.While)):
                    self.assertEqual(node.orelse, [], where)
                if isinstance(node, ast.Assign):
                    self.assertEqual(len(node.targets), 1, where)
                if isinstance(node, ast.ListComp):
                    self.assertEqual(len(node.generators), 1, where)
                    self.assertLessEqual(len(node.generators[0].ifs), 1, where)
                if isinstance(node, ast.Attribute):
                    self.assertIn(node.attr, METHODS, where)

    def test_texts_stand_by_themselves_at_the_top_alone(self):
        for name, tree in trees():
            for node in ast.walk(tree):
                if isinstance(node, ast.Expr) and node is not tree.body[0]:
                    self.assertIsInstance(node.value, ast.Call, (name, node.lineno))

    def test_names(self):
        for name, tree in trees():
            bound = dict(bound_names(tree))
            for word, row in bound.items():
                self.assertRegex(word, r"\A[A-Za-z][A-Za-z0-9_]*\Z", (name, row))
                self.assertFalse(hasattr(builtins, word), (name, row, word))
            for node in ast.walk(tree):
                if isinstance(node, ast.Name):
                    self.assertTrue(node.id in bound or node.id in OWN_NAMES, (name, node.lineno, node.id))

    def test_a_name_is_bound_once_at_the_top(self):
        for name, tree in trees():
            top = []
            for node in tree.body[1:]:
                if isinstance(node, ast.FunctionDef):
                    top.append(node.name)
                else:
                    self.assertIsInstance(node, ast.Assign, (name, node.lineno))
                    ast.literal_eval(node.value)
                    top.append(node.targets[0].id)
            self.assertEqual(len(top), len(set(top)), name)


if __name__ == "__main__":
    unittest.main()
