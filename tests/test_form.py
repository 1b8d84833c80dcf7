"""The form of the package's own files: what of the language's rules can be seen without reading."""

import ast
import os
import re
import unittest

PACKAGE = os.path.join(os.path.dirname(os.path.dirname(os.path.abspath(__file__))), "cutpieces")

BUILT_IN = set(
    "len range enumerate zip min max sum abs sorted reversed int str bool list tuple dict set frozenset isinstance"
    " ord repr any all divmod Exception ValueError TypeError KeyError IndexError LookupError ZeroDivisionError"
    " ArithmeticError OverflowError RuntimeError NotImplementedError StopIteration".split())

METHODS = set(
    "append clear copy count endswith extend find get index insert isalnum isalpha isdigit islower isspace isupper"
    " items join keys ljust lower lstrip partition pop remove replace reverse rfind rjust rpartition rsplit rstrip"
    " setdefault split splitlines startswith strip update upper values zfill bit_length".split())

NODES = set(
    "Module FunctionDef arguments arg Assign AugAssign If While For Return Break Continue Pass Expr Raise"
    " Constant List Tuple Dict BinOp UnaryOp BoolOp Compare IfExp Call Attribute Subscript Slice ListComp"
    " comprehension Name Lambda keyword Load Store Add Sub Mult FloorDiv Mod Pow BitAnd BitOr BitXor LShift RShift"
    " Invert USub UAdd Not And Or Eq NotEq Lt LtE Gt GtE In NotIn Is IsNot".split())

WORDS = re.compile(
    r"\b(type|typing|typing_extensions|enum|Enum|IntEnum|StrEnum|Flag|IntFlag|Generic|Protocol|ABC|ABCMeta|namedtuple"
    r"|NamedTuple|TypedDict|TYPE_CHECKING|abstractmethod)\b|dataclass|overload|contextmanager")


def package_files():
    return sorted(name for name in os.listdir(PACKAGE) if name != "__pycache__")


def read(name):
    with open(os.path.join(PACKAGE, name), encoding="utf-8", newline="") as file:
        return file.read()


def bound_names(tree):
    names = set()
    for node in ast.walk(tree):
        if isinstance(node, ast.FunctionDef):
            names.add(node.name)
        elif isinstance(node, ast.arg):
            names.add(node.arg)
        elif isinstance(node, ast.Name) and isinstance(node.ctx, ast.Store):
            names.add(node.id)
    return names


class Form(unittest.TestCase):
    def test_files(self):
        self.assertIn("__init__.py", package_files())
        self.assertIn("desk.py", package_files())
        for name in package_files():
            self.assertRegex(name, r"^[a-z0-9_]+\.py$")

    def test_size_and_signs(self):
        for name in package_files():
            text = read(name)
            self.assertRegex(text, r"\A[ -~\n]*\Z", name)
            self.assertIsNone(WORDS.search(text), name)
            rows = text.split("\n")
            self.assertLessEqual(len(rows), 400, name)
            for row in rows:
                self.assertLessEqual(len(row), 120, row)

    def test_nothing_is_imported(self):
        for name in package_files():
            for node in ast.walk(ast.parse(read(name))):
                self.assertNotIsInstance(node, (ast.Import, ast.ImportFrom), name)

    def test_only_the_plain_forms(self):
        for name in package_files():
            for node in ast.walk(ast.parse(read(name))):
                self.assertIn(node.__class__.__name__, NODES, f"{name} {ast.dump(node)[:100]}")
                if isinstance(node, ast.Assign):
                    self.assertEqual(len(node.targets), 1)
                if isinstance(node, (ast.For, ast.While)):
                    self.assertEqual(node.orelse, [])
                if isinstance(node, ast.ListComp):
                    self.assertEqual(len(node.generators), 1)
                    self.assertLessEqual(len(node.generators[0].ifs), 1)
                if isinstance(node, ast.Attribute):
                    self.assertIn(node.attr, METHODS)

    def test_functions_are_small_and_plain(self):
        for name in package_files():
            for node in ast.walk(ast.parse(read(name))):
                if isinstance(node, ast.FunctionDef):
                    self.assertLessEqual(node.end_lineno - node.lineno + 1, 40, node.name)
                    self.assertEqual(node.decorator_list, [])
                    self.assertIsNone(node.args.vararg)
                    self.assertIsNone(node.args.kwarg)

    def test_names(self):
        built_in = set(dir(__builtins__) if not isinstance(__builtins__, dict) else __builtins__)
        for name in package_files():
            tree = ast.parse(read(name))
            bound = bound_names(tree)
            self.assertEqual(bound & built_in, set(), name)
            self.assertEqual([word for word in bound if word.startswith("_")], [], name)
            for node in ast.walk(tree):
                if isinstance(node, ast.Name) and isinstance(node.ctx, ast.Load):
                    self.assertIn(node.id, bound | BUILT_IN, name)


if __name__ == "__main__":
    unittest.main()
