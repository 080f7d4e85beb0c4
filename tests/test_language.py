"""The package keeps to the part of Python that it is written in, as far as can be seen from its files."""

import ast
import builtins
import re
import unittest
from pathlib import Path

PACKAGE = Path(__file__).resolve().parent.parent / "dayahead"

BUILT_IN = set("""len range enumerate zip min max sum abs sorted reversed int str bool list tuple dict set frozenset
isinstance ord repr any all divmod Exception ValueError TypeError KeyError IndexError LookupError ZeroDivisionError
ArithmeticError OverflowError RuntimeError NotImplementedError""".split())
METHODS = set("""append clear copy count endswith extend find get index insert isalnum isalpha isdigit islower isspace
isupper items join keys ljust lower lstrip partition pop remove replace reverse rfind rjust rpartition rsplit rstrip
setdefault split splitlines startswith strip update upper values zfill bit_length""".split())
NODES = set("""Module Expr Constant ImportFrom alias FunctionDef ClassDef arguments arg Assign AugAssign Name Load Store
Tuple List Dict If While For Return Break Continue Pass Raise Call Attribute Subscript Slice BinOp UnaryOp USub Not
BoolOp And Or Compare Eq NotEq Lt LtE Gt GtE Is IsNot In NotIn Add Sub Mult FloorDiv Mod IfExp ListComp
comprehension""".split())
WORDS = set("""type typing typing_extensions enum Enum IntEnum StrEnum Flag IntFlag Generic Protocol ABC ABCMeta
namedtuple NamedTuple TypedDict TYPE_CHECKING abstractmethod""".split())


def files():
    return sorted(PACKAGE.rglob("*.py"))


def nodes():
    for path in files():
        for node in ast.walk(ast.parse(path.read_text(encoding="ascii"))):
            yield path.name, node


class LanguageTest(unittest.TestCase):
    def test_the_package_holds_plain_files_alone(self):
        names = sorted(path.name for path in PACKAGE.iterdir() if path.name != "__pycache__")
        self.assertEqual(names, sorted(path.name for path in files()))
        self.assertIn("__init__.py", names)
        for name in names:
            self.assertRegex(name, r"^[a-z0-9_]+\.py$")
            self.assertNotRegex(name, r"^test|^site|^conftest")

    def test_signs_and_sizes(self):
        for path in files():
            lines = path.read_text(encoding="ascii").split("\n")
            self.assertLessEqual(len(lines), 400)
            for line in lines:
                self.assertRegex(line, r"^[ -~]{0,120}$")

    def test_words_that_stand_nowhere(self):
        for path in files():
            text = path.read_text(encoding="ascii")
            self.assertEqual(sorted(WORDS & set(re.findall(r"\w+", text))), [])
            self.assertNotRegex(text, "dataclass|overload|contextmanager")

    def test_functions_are_short(self):
        for name, node in nodes():
            if isinstance(node, ast.FunctionDef):
                self.assertLessEqual(node.end_lineno - node.lineno + 1, 40, (name, node.name))
                self.assertEqual(node.decorator_list, [])
                arguments = node.args
                self.assertEqual((arguments.vararg, arguments.kwarg, arguments.kwonlyargs), (None, None, []))

    def test_statements_and_expressions(self):
        for name, node in nodes():
            self.assertIn(node.__class__.__name__, NODES, (name, getattr(node, "lineno", 0)))
            if isinstance(node, ast.Constant):
                self.assertIn(node.value.__class__, (int, str, bool, None.__class__))
            if isinstance(node, ast.Assign):
                self.assertEqual(len(node.targets), 1)
                self.assertNotIsInstance(node.targets[0], ast.Tuple)
            if isinstance(node, ast.ListComp):
                self.assertEqual(len(node.generators), 1)
                self.assertLessEqual(len(node.generators[0].ifs), 1)
            if isinstance(node, (ast.For, ast.While)):
                self.assertEqual(node.orelse, [])

    def test_imports(self):
        for name, node in nodes():
            if isinstance(node, ast.ImportFrom):
                self.assertEqual(node.level, 0)
                self.assertRegex(node.module, r"^dayahead\.[a-z0-9_]+$")
                self.assertNotEqual(name, "__init__.py")
                self.assertNotIn("*", [alias.name for alias in node.names])

    def test_names(self):
        for path in files():
            tree = ast.parse(path.read_text(encoding="ascii"))
            bound = set()
            for node in ast.walk(tree):
                if isinstance(node, (ast.FunctionDef, ast.ClassDef)):
                    bound.add(node.name)
                elif isinstance(node, ast.arg):
                    bound.add(node.arg)
                elif isinstance(node, ast.alias):
                    bound.add(node.name)
                elif isinstance(node, ast.Name) and isinstance(node.ctx, ast.Store):
                    bound.add(node.id)
            self.assertEqual(sorted(bound & BUILT_IN), [])
            for name in bound - {"__init__"}:
                self.assertRegex(name, "^[A-Za-z]")
            read = {node.id for node in ast.walk(tree) if isinstance(node, ast.Name)}
            self.assertEqual(sorted(read - bound - BUILT_IN), [])

    def test_no_local_is_called_like_an_import_or_a_class(self):
        for path in files():
            tree = ast.parse(path.read_text(encoding="ascii"))
            taken = {node.name for node in ast.walk(tree) if isinstance(node, (ast.alias, ast.ClassDef))}
            local = {node.arg for node in ast.walk(tree) if isinstance(node, ast.arg)}
            local |= {node.id for node in ast.walk(tree) if isinstance(node, ast.Name) and isinstance(node.ctx, ast.Store)}
            self.assertEqual(sorted(taken & local), [])
            self.assertEqual(sorted(local & set(dir(builtins))), [])

    def test_methods(self):
        own = {node.name for name, node in nodes() if isinstance(node, ast.FunctionDef)}
        stored = {node.attr for name, node in nodes()
                  if isinstance(node, ast.Attribute) and isinstance(node.ctx, ast.Store)}
        of_python = set(dir(str) + dir(int) + dir(list) + dir(dict) + dir(set) + dir(bytes))
        methods = {part.name for name, node in nodes() if isinstance(node, ast.ClassDef)
                   for part in node.body if isinstance(part, ast.FunctionDef)} - {"__init__"}
        self.assertEqual(sorted(methods & stored), [])
        self.assertEqual(sorted((methods | stored) & of_python), [])
        for name, node in nodes():
            if isinstance(node, ast.Attribute):
                self.assertIn(node.attr, own | stored | METHODS, name)


if __name__ == "__main__":
    unittest.main()
