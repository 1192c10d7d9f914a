"""Point 1's "no clock, chance or files", and the form that the package's files keep to.

This sees the rules that can be told from one file's words and shape; the others are left to the eye.
"""

import ast
import builtins
import re
import unittest
from pathlib import Path

PACKAGE = Path(__file__).resolve().parent.parent / "atleast"

ALLOWED_BUILTINS = set("""
    len range enumerate zip min max sum abs sorted reversed int str bool list tuple dict set frozenset isinstance ord
    repr any all divmod Exception ValueError TypeError KeyError IndexError LookupError ZeroDivisionError
    ArithmeticError OverflowError RuntimeError NotImplementedError AttributeError StopIteration
""".split())

BANNED_WORDS = re.compile(
    r"\b(type|typing|typing_extensions|enum|Enum|IntEnum|StrEnum|Flag|IntFlag|Generic|Protocol|ABC|ABCMeta"
    r"|namedtuple|NamedTuple|TypedDict|TYPE_CHECKING|abstractmethod)\b|dataclass|overload|contextmanager")

METHODS = set("""
    append clear copy count endswith extend find get index insert isalnum isalpha isdigit islower isspace isupper items
    join keys ljust lower lstrip partition pop remove replace reverse rfind rjust rpartition rsplit rstrip setdefault
    split splitlines startswith strip update upper values zfill bit_length
""".split())

BANNED_NODES = (
    ast.Import, ast.With, ast.Match, ast.Delete, ast.Global, ast.Nonlocal, ast.Assert, ast.Yield, ast.YieldFrom,
    ast.AsyncFunctionDef, ast.AsyncFor, ast.AsyncWith, ast.Await, ast.GeneratorExp, ast.SetComp, ast.DictComp,
    ast.NamedExpr, ast.Starred, ast.Div, ast.MatMult, ast.AnnAssign)


def files():
    return sorted(PACKAGE.rglob("*.py"))


def trees():
    return [(path.name, ast.parse(path.read_text(encoding="utf-8"))) for path in files()]


class TestForm(unittest.TestCase):
    def nodes(self, *kinds):
        return [(name, node) for name, tree in trees() for node in ast.walk(tree) if isinstance(node, kinds)]

    def test_files(self):
        for path in PACKAGE.rglob("*"):
            if "__pycache__" not in path.parts and not path.is_dir():
                self.assertRegex(path.name, r"\A[a-z0-9_]+\.py\Z")
        for module in ("__init__", "errors", "parts", "rows", "taking", "corners", "asking", "notes"):
            self.assertTrue((PACKAGE / (module + ".py")).is_file(), module)

    def test_sizes_and_signs(self):
        for path in files():
            text = path.read_text(encoding="utf-8")
            self.assertRegex(text, r"\A[\n -~]*\Z", path.name)
            self.assertLessEqual(len(text.splitlines()), 400, path.name)
            for line in text.splitlines():
                self.assertLessEqual(len(line), 120, path.name)
                self.assertIsNone(BANNED_WORDS.search(line), (path.name, line))
        for name, node in self.nodes(ast.FunctionDef):
            self.assertLessEqual(node.end_lineno - node.lineno + 1, 40, (name, node.name))

    def test_imports_are_the_packages_own(self):
        for name, node in self.nodes(ast.ImportFrom):
            self.assertEqual(node.level, 0, name)
            self.assertRegex(node.module, r"\Aatleast\.[a-z0-9_]+\Z", name)
            self.assertNotIn("*", [alias.name for alias in node.names], name)

    def test_statements_and_expressions(self):
        for name, node in self.nodes(*BANNED_NODES):
            self.fail(f"{name}:{node.lineno}: {node.__class__.__name__}")
        for name, node in self.nodes(ast.Constant):
            self.assertNotIsInstance(node.value, (float, complex, bytes), name)
        for name, node in self.nodes(ast.Assign):
            self.assertEqual(len(node.targets), 1, name)
        for name, node in self.nodes(ast.For, ast.While):
            self.assertEqual(node.orelse, [], name)
        for name, node in self.nodes(ast.ListComp):
            self.assertEqual(len(node.generators), 1, name)
            self.assertLessEqual(len(node.generators[0].ifs), 1, name)

    def test_functions_have_plain_parameters(self):
        for name, node in self.nodes(ast.FunctionDef):
            self.assertEqual(node.decorator_list, [], name)
            given = node.args
            self.assertEqual((given.vararg, given.kwarg, given.kwonlyargs), (None, None, []), name)

    def test_names(self):
        for name, node in self.nodes(ast.Name):
            self.assertFalse(node.id.startswith("_"), (name, node.id))
            if hasattr(builtins, node.id):
                self.assertIn(node.id, ALLOWED_BUILTINS, name)
                self.assertIsInstance(node.ctx, ast.Load, (name, node.id))
        for name, node in self.nodes(ast.arg):
            self.assertFalse(hasattr(builtins, node.arg), (name, node.arg))

    def test_texts(self):
        for name, node in self.nodes(ast.Constant):
            if isinstance(node.value, str):
                self.assertNotIn("%", node.value, name)
        for name, node in self.nodes(ast.FormattedValue):
            self.assertIsInstance(node.value, ast.Name, name)

    def test_methods(self):
        own = {node.name for name, node in self.nodes(ast.FunctionDef)}
        for name, node in self.nodes(ast.Call):
            if isinstance(node.func, ast.Attribute):
                self.assertIn(node.func.attr, METHODS | own, name)

    def test_no_two_files_draw_from_one_another(self):
        drawn = {name: [node.module.split(".")[1] + ".py" for node in tree.body if isinstance(node, ast.ImportFrom)]
                 for name, tree in trees()}
        done = set()
        while len(done) < len(drawn):
            ready = [name for name in drawn if name not in done and done.issuperset(drawn[name])]
            self.assertNotEqual(ready, [], "some of these draw from one another: " + str(set(drawn) - done))
            done.update(ready)

    def test_names_come_from_the_file_that_defines_them(self):
        defined = {name: [node.name for node in tree.body if isinstance(node, (ast.FunctionDef, ast.ClassDef))]
                   for name, tree in trees()}
        for name, node in self.nodes(ast.ImportFrom):
            for alias in node.names:
                self.assertIn(alias.name, defined[node.module.split(".")[1] + ".py"], name)

    def test_locals_are_not_called_like_classes_or_imports(self):
        for name, tree in trees():
            taken = {node.name for node in tree.body if isinstance(node, ast.ClassDef)}
            taken |= {alias.name for node in tree.body if isinstance(node, ast.ImportFrom) for alias in node.names}
            for node in ast.walk(tree):
                if isinstance(node, ast.arg):
                    self.assertNotIn(node.arg, taken, name)
                if isinstance(node, ast.Name) and isinstance(node.ctx, ast.Store):
                    self.assertNotIn(node.id, taken, name)

    def test_nothing_is_done_at_the_top(self):
        for name, tree in trees():
            self.assertIsNotNone(ast.get_docstring(tree), name)
            for node in tree.body[1:]:
                self.assertIsInstance(node, (ast.ImportFrom, ast.FunctionDef, ast.ClassDef, ast.Assign), name)


if __name__ == "__main__":
    unittest.main()
