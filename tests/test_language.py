"""The package's own files against those rules of the language that can be seen from a file's tree and rows.

Not every rule is looked at here: L1, L2, L5 to L8, L10, L12, L14, L16, L17 and L25, each as far as told below.
"""

import ast
import builtins
import pathlib
import re
import unittest

PACKAGE = pathlib.Path(__file__).resolve().parent.parent / "curedsteps"
FILES = sorted(path for path in PACKAGE.rglob("*") if "__pycache__" not in path.parts)

KINDS = """Module Import ImportFrom alias FunctionDef ClassDef arguments arg Return Assign AugAssign For While If Raise Try
ExceptHandler Expr Pass Break Continue BoolOp BinOp UnaryOp Lambda IfExp Dict Set ListComp comprehension Compare Call
JoinedStr FormattedValue Constant Attribute Subscript Name List Tuple Slice Load Store And Or Not Add Sub Mult FloorDiv
Mod Pow LShift RShift BitOr BitXor BitAnd Invert USub UAdd Eq NotEq Lt LtE Gt GtE Is IsNot In NotIn""".split()
OWN_NAMES = """len range enumerate zip min max sum abs sorted reversed int str bool list tuple dict set frozenset isinstance
ord repr any all divmod Exception ValueError TypeError KeyError IndexError LookupError ZeroDivisionError ArithmeticError
OverflowError RuntimeError NotImplementedError AttributeError StopIteration""".split()
METHODS = """append clear copy count endswith extend find get index insert isalnum isalpha isdigit islower isspace isupper
items join keys ljust lower lstrip partition pop remove replace reverse rfind rjust rpartition rsplit rstrip setdefault
split splitlines startswith strip update upper values zfill bit_length""".split()
WORDS = """type typing typing_extensions enum Enum IntEnum StrEnum Flag IntFlag Generic Protocol ABC ABCMeta namedtuple
NamedTuple TypedDict TYPE_CHECKING abstractmethod""".split()


def trees():
    return [(path, ast.parse(path.read_text("utf-8"))) for path in FILES]


def bound_names(node):
    if isinstance(node, (ast.FunctionDef, ast.ClassDef)):
        return [node.name]
    if isinstance(node, ast.arg):
        return [node.arg]
    if isinstance(node, ast.Name) and isinstance(node.ctx, ast.Store):
        return [node.id]
    return []


class Language(unittest.TestCase):
    def test_files(self):
        self.assertIn(PACKAGE / "oven.py", FILES)
        for path in FILES:
            self.assertTrue(path.is_file() and re.fullmatch(r"[a-z0-9_]+\.py", path.name), path)

    def test_rows(self):
        for path in FILES:
            text = path.read_text("utf-8")
            self.assertTrue(all(sign == "\n" or " " <= sign <= "~" for sign in text), path)
            self.assertLessEqual(len(text.splitlines()), 400, path)
            self.assertLessEqual(max(len(row) for row in text.splitlines()), 120, path)
            self.assertFalse(set(re.findall(r"\w+", text)) & set(WORDS), path)
            self.assertIsNone(re.search("dataclass|overload|contextmanager", text), path)

    def test_kinds_of_statements_and_values(self):
        for path, tree in trees():
            for node in ast.walk(tree):
                self.assertIn(node.__class__.__name__, KINDS, (path, getattr(node, "lineno", None)))
                if isinstance(node, ast.Constant):
                    self.assertIn(node.value.__class__, (int, str, bool, None.__class__), path)
                if isinstance(node, (ast.For, ast.While)):
                    self.assertFalse(node.orelse, path)
                if isinstance(node, ast.Assign):
                    self.assertEqual(len(node.targets), 1, path)

    def test_functions(self):
        for path, tree in trees():
            for node in ast.walk(tree):
                if isinstance(node, (ast.FunctionDef, ast.ClassDef)):
                    self.assertFalse(node.decorator_list, path)
                if isinstance(node, ast.FunctionDef):
                    self.assertLessEqual(node.end_lineno - node.lineno + 1, 40, (path, node.name))
                    self.assertFalse(node.args.vararg or node.args.kwarg or node.args.kwonlyargs, (path, node.name))

    def test_names(self):
        for path, tree in trees():
            bound = [name for node in ast.walk(tree) for name in bound_names(node)]
            for name in bound:
                self.assertTrue(name == "__init__" or re.fullmatch(r"[A-Za-z][A-Za-z0-9_]*", name), (path, name))
                self.assertNotIn(name, dir(builtins), path)
            for node in ast.walk(tree):
                if isinstance(node, ast.Name) and hasattr(builtins, node.id):
                    self.assertIn(node.id, OWN_NAMES, (path, node.lineno))

    def test_imports(self):
        for path, tree in trees():
            for node in ast.walk(tree):
                self.assertNotIsInstance(node, ast.Import, path)
                if isinstance(node, ast.ImportFrom):
                    self.assertIn(node, tree.body, path)
                    self.assertEqual(node.level, 0, path)
                    self.assertTrue(node.module.startswith("curedsteps."), (path, node.module))

    def test_methods(self):
        own = {item.name for path, tree in trees() for node in ast.walk(tree) if isinstance(node, ast.ClassDef)
               for item in node.body}
        for path, tree in trees():
            for node in ast.walk(tree):
                if isinstance(node, ast.Call) and isinstance(node.func, ast.Attribute):
                    self.assertIn(node.func.attr, own | set(METHODS), (path, node.lineno))


if __name__ == "__main__":
    unittest.main()
