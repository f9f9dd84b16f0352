"""The rules of the language part that a look at the files can hold; the rest is held by reading."""

import ast
import builtins
import re
import unittest
from pathlib import Path

PACKAGE = Path(__file__).resolve().parent.parent / "balltable"

STATEMENTS = (ast.Assign, ast.AugAssign, ast.If, ast.While, ast.For, ast.Return, ast.Break, ast.Continue, ast.Pass,
              ast.Raise, ast.Try, ast.Expr, ast.FunctionDef, ast.ClassDef, ast.ImportFrom)
EXPRESSIONS = (ast.Constant, ast.Name, ast.Attribute, ast.Subscript, ast.Slice, ast.Call, ast.BinOp, ast.UnaryOp,
               ast.BoolOp, ast.Compare, ast.IfExp, ast.List, ast.Tuple, ast.Dict, ast.ListComp, ast.Lambda,
               ast.JoinedStr, ast.FormattedValue)
BUILTINS = """len range enumerate zip min max sum abs sorted reversed int str bool list tuple dict set frozenset
    isinstance ord repr any all divmod Exception ValueError TypeError KeyError IndexError LookupError ZeroDivisionError
    ArithmeticError OverflowError RuntimeError NotImplementedError AttributeError StopIteration""".split()
METHODS = """append clear copy count endswith extend find get index insert isalnum isalpha isdigit islower isspace
    isupper items join keys ljust lower lstrip partition pop remove replace reverse rfind rjust rpartition rsplit rstrip
    setdefault split splitlines startswith strip update upper values zfill bit_length""".split()
NOT_NAMES = """attrgetter breakpoint builtins compile copyright credits delattr dir eval exec exit gc getattr globals
    hasattr help id importlib license locals methodcaller os quit setattr super type vars sys register mro elements
    open input version_info with_traceback add_note""".split()
NOT_WORDS = """type typing typing_extensions enum Enum IntEnum StrEnum Flag IntFlag Generic Protocol ABC ABCMeta
    namedtuple NamedTuple TypedDict TYPE_CHECKING abstractmethod""".split()


def files():
    return sorted(PACKAGE.rglob("*.py"))


# Read once, so that a node is the same object each time it is walked to.
TREES = [(path.name, ast.parse(path.read_text(encoding="ascii"))) for path in files()]


def nodes(kind):
    for name, tree in TREES:
        for node in ast.walk(tree):
            if isinstance(node, kind):
                yield name, node


class LanguageTest(unittest.TestCase):
    def test_the_package_holds_its_files_alone(self):
        names = sorted(path.name for path in PACKAGE.iterdir() if path.name != "__pycache__")
        self.assertEqual(names, ["__init__.py", "games.py"])

    def test_sizes_and_signs(self):
        for path in files():
            data = path.read_bytes()
            self.assertTrue(all(sign == 10 or 32 <= sign <= 126 for sign in data), path.name)
            rows = data.decode("ascii").splitlines()
            self.assertLessEqual(len(rows), 400, path.name)
            for row in rows:
                self.assertLessEqual(len(row), 120, row)
        for name, node in nodes(ast.FunctionDef):
            self.assertLessEqual(node.end_lineno - node.lineno + 1, 40, node.name)

    def test_statements_and_expressions(self):
        for name, node in nodes((ast.stmt, ast.expr)):
            self.assertIsInstance(node, STATEMENTS + EXPRESSIONS, f"{name}, row {node.lineno}")
        for name, node in nodes(ast.Assign):
            self.assertEqual(len(node.targets), 1, f"{name}, row {node.lineno}")
        for name, node in nodes((ast.For, ast.While)):
            self.assertEqual(node.orelse, [], f"{name}, row {node.lineno}")
        for name, node in nodes(ast.Constant):
            self.assertIn(type(node.value), (int, str, bool, type(None)), f"{name}, row {node.lineno}")
        for name, node in nodes(ast.operator):
            self.assertNotIsInstance(node, (ast.Div, ast.MatMult), name)

    def test_defs_are_plain(self):
        for name, node in nodes(ast.FunctionDef):
            self.assertEqual(node.decorator_list, [], node.name)
            self.assertIsNone(node.args.vararg, node.name)
            self.assertIsNone(node.args.kwarg, node.name)
            self.assertEqual(node.args.kwonlyargs + node.args.posonlyargs, [], node.name)
        for name, node in nodes(ast.ClassDef):
            self.assertEqual(node.decorator_list, [], node.name)
            for part in node.body:
                self.assertIsInstance(part, ast.FunctionDef, node.name)

    def test_the_top_of_a_module(self):
        for name, tree in TREES:
            bound = []
            for node in tree.body:
                self.assertIsInstance(node, (ast.Expr, ast.Assign, ast.FunctionDef, ast.ClassDef, ast.ImportFrom))
                if isinstance(node, ast.Assign):
                    ast.literal_eval(node.value)
                    bound.append(node.targets[0].id)
                elif isinstance(node, (ast.FunctionDef, ast.ClassDef)):
                    bound.append(node.name)
            self.assertEqual(len(bound), len(set(bound)), name)

    def test_nothing_is_imported(self):
        self.assertEqual(list(nodes((ast.Import, ast.ImportFrom))), [])

    def test_names(self):
        pythons = set(dir(builtins))
        for name, node in nodes(ast.Name):
            self.assertRegex(node.id, r"\A[A-Za-z][A-Za-z0-9_]*\Z")
            self.assertNotIn(node.id, NOT_NAMES, name)
            if node.id in pythons:
                self.assertIn(node.id, BUILTINS, name)
                self.assertIsInstance(node.ctx, ast.Load, node.id)
        for name, node in nodes(ast.arg):
            self.assertRegex(node.arg, r"\A[A-Za-z][A-Za-z0-9_]*\Z")
            self.assertNotIn(node.arg, pythons | set(NOT_NAMES), name)

    def test_words_that_stand_nowhere(self):
        for path in files():
            words = re.findall(r"[A-Za-z0-9_]+", path.read_text(encoding="ascii"))
            self.assertEqual([word for word in words if word in NOT_WORDS], [], path.name)

    def test_methods_and_values(self):
        own = {node.name for name, node in nodes(ast.FunctionDef)}
        pythons = set()
        for kind in (str, int, list, dict, set, bytes, tuple):
            pythons |= set(dir(kind))
        called = [node.func for name, node in nodes(ast.Call) if isinstance(node.func, ast.Attribute)]
        for node in called:
            self.assertIn(node.attr, set(METHODS) | own)
        for name, node in nodes(ast.Attribute):
            if node not in called:
                self.assertNotIn(node.attr, pythons | set(NOT_NAMES), f"{name}, row {node.lineno}")

    def test_texts(self):
        for name, node in nodes(ast.Constant):
            if isinstance(node.value, str):
                self.assertNotIn("%", node.value, f"{name}, row {node.lineno}")


if __name__ == "__main__":
    unittest.main()
