"""The package's files are held against the rules of the language that can be seen without running them."""

import ast
import pathlib
import re
import unittest

PACKAGE = pathlib.Path(__file__).resolve().parent.parent / "bladecrane"
FILES = sorted(PACKAGE.rglob("*.py"))

OWN_NAMES = """len range enumerate zip min max sum abs sorted reversed int str bool list tuple dict set frozenset
    isinstance ord repr any all divmod Exception ValueError TypeError KeyError IndexError LookupError ZeroDivisionError
    ArithmeticError OverflowError RuntimeError NotImplementedError AttributeError StopIteration""".split()
METHODS = """append clear copy count endswith extend find get index insert isalnum isalpha isdigit islower isspace
    isupper items join keys ljust lower lstrip partition pop remove replace reverse rfind rjust rpartition rsplit
    rstrip setdefault split splitlines startswith strip update upper values zfill bit_length""".split()
NODES = """Module Expr Constant ImportFrom alias FunctionDef arguments arg ClassDef Assign AugAssign If While For Return
    Break Continue Pass Call keyword Attribute Subscript Slice Name Load Store List Tuple Dict BinOp UnaryOp BoolOp
    Compare IfExp ListComp comprehension Add Sub Mult FloorDiv Mod Pow USub And Or Not Eq NotEq Lt LtE Gt GtE Is IsNot
    In NotIn BitAnd BitOr BitXor LShift RShift Invert Lambda Raise Try ExceptHandler JoinedStr FormattedValue""".split()
WORDS = """type typing typing_extensions enum Enum IntEnum StrEnum Flag IntFlag Generic Protocol ABC ABCMeta namedtuple
    NamedTuple TypedDict TYPE_CHECKING abstractmethod""".split()


class Language(unittest.TestCase):
    def each_tree(self):
        for path in FILES:
            with self.subTest(file=path.name):
                yield path, ast.parse(path.read_text(encoding="ascii"))

    def test_nothing_else_lies_in_the_package(self):
        names = [path.name for path in PACKAGE.iterdir() if path.name != "__pycache__"]
        self.assertEqual([name for name in names if not re.fullmatch(r"[a-z0-9_]+\.py", name)], [])
        self.assertIn("__init__.py", names)
        self.assertIn("hall.py", names)

    def test_sizes_and_signs(self):
        for path in FILES:
            text = path.read_text(encoding="ascii")
            rows = text.split("\n")
            self.assertLessEqual(len(rows), 400, path)
            self.assertLessEqual(max(len(row) for row in rows), 120, path)
            self.assertIsNone(re.search(r"[^ -~\n]", text), path)
            forbidden = r"\b(" + "|".join(WORDS) + r")\b|dataclass|overload|contextmanager"
            self.assertIsNone(re.search(forbidden, text), path)

    def test_functions_have_at_most_40_lines(self):
        for path, tree in self.each_tree():
            for node in ast.walk(tree):
                if isinstance(node, ast.FunctionDef):
                    self.assertLessEqual(node.end_lineno - node.lineno + 1, 40, node.name)
                    self.assertEqual(node.decorator_list, [])

    def test_only_the_plain_forms(self):
        for path, tree in self.each_tree():
            for node in ast.walk(tree):
                self.assertIn(node.__class__.__name__, NODES, getattr(node, "lineno", 0))
                if isinstance(node, ast.Assign):
                    self.assertEqual(len(node.targets), 1)
                if isinstance(node, ast.Constant):
                    self.assertIn(node.value.__class__, (int, str, bool, type(None)))
                if isinstance(node, (ast.While, ast.For)):
                    self.assertEqual(node.orelse, [])

    def test_imports_are_the_packages_own(self):
        for path, tree in self.each_tree():
            for node in ast.walk(tree):
                if isinstance(node, ast.ImportFrom):
                    self.assertIn(node, tree.body)
                    self.assertRegex(node.module, r"^bladecrane\.[a-z_]+$")

    def test_names_and_methods(self):
        for path, tree in self.each_tree():
            known = set(OWN_NAMES)
            own_methods = set()
            for node in ast.walk(tree):
                if isinstance(node, (ast.FunctionDef, ast.ClassDef)):
                    known.add(node.name)
                elif isinstance(node, ast.arg):
                    known.add(node.arg)
                    self.assertNotIn(node.arg, OWN_NAMES)
                elif isinstance(node, ast.alias):
                    known.add(node.name)
                elif isinstance(node, ast.Name) and isinstance(node.ctx, ast.Store):
                    known.add(node.id)
                    self.assertNotIn(node.id, OWN_NAMES)
                    self.assertFalse(node.id.startswith("_"), node.id)
            for other in FILES:
                for node in ast.walk(ast.parse(other.read_text(encoding="ascii"))):
                    if isinstance(node, ast.ClassDef):
                        own_methods.update(part.name for part in node.body if isinstance(part, ast.FunctionDef))
            for node in ast.walk(tree):
                if isinstance(node, ast.Name):
                    self.assertIn(node.id, known)
                if isinstance(node, ast.Call) and isinstance(node.func, ast.Attribute):
                    self.assertIn(node.func.attr, set(METHODS) | own_methods)


if __name__ == "__main__":
    unittest.main()
