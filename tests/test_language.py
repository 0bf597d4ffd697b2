"""The rules of the language subset that can be checked by reading the files."""

import ast
import builtins
import re
import unittest
from pathlib import Path

PACKAGE = Path(__file__).resolve().parent.parent / "slipcurve"
BUILTINS = set(
    "len range enumerate zip min max sum abs sorted reversed int str bool bytes list tuple dict set frozenset "
    "isinstance ord repr any all divmod Exception ValueError TypeError KeyError IndexError LookupError "
    "ZeroDivisionError ArithmeticError OverflowError RuntimeError NotImplementedError AttributeError "
    "StopIteration".split()
)
BARRED_WORDS = (
    "type typing typing_extensions enum Enum IntEnum StrEnum Flag IntFlag Generic Protocol ABC ABCMeta "
    "namedtuple NamedTuple TypedDict TYPE_CHECKING abstractmethod"
).split()
BARRED_PARTS = ("dataclass", "overload", "contextmanager")
BARRED_NODES = (
    ast.With, ast.Match, ast.Global, ast.Nonlocal, ast.Yield, ast.YieldFrom, ast.AsyncFunctionDef, ast.Await,
    ast.GeneratorExp, ast.NamedExpr, ast.Div, ast.Import,
)

METHODS = set(
    "append clear copy count endswith extend find get index insert isalnum isalpha isdigit islower isspace isupper "
    "items join keys ljust lower lstrip partition pop remove replace reverse rfind rjust rpartition rsplit rstrip "
    "setdefault split splitlines startswith strip update upper values zfill bit_length isascii".split()
)


def package_files():
    return sorted(PACKAGE.glob("*.py"))


def bound_names(tree):
    names = set()
    for node in ast.walk(tree):
        if isinstance(node, ast.Name) and isinstance(node.ctx, ast.Store):
            names.add(node.id)
        if isinstance(node, (ast.FunctionDef, ast.ClassDef)):
            names.add(node.name)
        if isinstance(node, ast.arg):
            names.add(node.arg)
        if isinstance(node, ast.ImportFrom):
            names.update(alias.asname or alias.name for alias in node.names)
    return names


def methods_of(tree):
    return {
        part.name for node in ast.walk(tree) if isinstance(node, ast.ClassDef)
        for part in node.body if isinstance(part, ast.FunctionDef)
    }


def own_attributes(tree):
    return {
        node.attr for node in ast.walk(tree)
        if isinstance(node, ast.Attribute) and isinstance(node.ctx, ast.Store)
    }


def local_names(tree):
    """The parameters and assigned names of all functions of a file."""
    names = set()
    for node in ast.walk(tree):
        if isinstance(node, (ast.FunctionDef, ast.Lambda)):
            for part in ast.walk(node):
                if isinstance(part, ast.arg):
                    names.add(part.arg)
                if isinstance(part, ast.Name) and isinstance(part.ctx, ast.Store):
                    names.add(part.id)
    return names


class Language(unittest.TestCase):
    def test_the_folder_holds_plain_files_only(self):
        for path in PACKAGE.iterdir():
            if path.name != "__pycache__":
                self.assertRegex(path.name, r"^[a-z0-9_]+\.py$")

    def test_lines_and_signs(self):
        for path in package_files():
            text = path.read_text(encoding="ascii")
            self.assertRegex(text, r"\A[ -~\n]*\Z", path.name)
            lines = text.split("\n")
            self.assertLessEqual(len(lines), 400, path.name)
            self.assertLessEqual(max(len(line) for line in lines), 120, path.name)

    def test_barred_words(self):
        for path in package_files():
            text = path.read_text()
            for word in BARRED_WORDS:
                self.assertIsNone(re.search(rf"\b{word}\b", text), (path.name, word))
            for part in BARRED_PARTS:
                self.assertNotIn(part, text, path.name)

    def test_statements_and_imports(self):
        for path in package_files():
            for node in ast.walk(ast.parse(path.read_text())):
                self.assertNotIsInstance(node, BARRED_NODES, (path.name, getattr(node, "lineno", 0)))
                if isinstance(node, ast.ImportFrom):
                    self.assertRegex(node.module, r"^(slipcurve\.[a-z0-9_]+|__future__)$", path.name)
                if isinstance(node, ast.BinOp) and isinstance(node.op, ast.Pow):
                    self.assertIsInstance(node.right, ast.Constant, (path.name, node.lineno))
                if isinstance(node, ast.Constant):
                    self.assertNotIsInstance(node.value, float, path.name)
                if isinstance(node, ast.FunctionDef):
                    self.assertLessEqual(node.end_lineno - node.lineno + 1, 40, (path.name, node.name))
                    self.assertEqual(node.decorator_list, [], (path.name, node.name))

    def test_names(self):
        for path in package_files():
            tree = ast.parse(path.read_text())
            bound = bound_names(tree)
            self.assertEqual(bound & BUILTINS, set(), path.name)
            for name in bound - {"__init__", "__eq__", "__repr__", "__str__", "__len__"}:
                self.assertRegex(name, r"^[A-Za-z][A-Za-z0-9_]*$", path.name)
            for node in ast.walk(tree):
                if isinstance(node, ast.Name) and isinstance(node.ctx, ast.Load):
                    self.assertIn(node.id, bound | BUILTINS, (path.name, node.lineno))

    def test_local_names_mean_nothing_else(self):
        for path in package_files():
            tree = ast.parse(path.read_text())
            taken = set(dir(builtins))
            for node in tree.body:
                if isinstance(node, ast.ImportFrom):
                    taken.update(alias.name for alias in node.names)
                if isinstance(node, (ast.ClassDef, ast.FunctionDef)):
                    taken.add(node.name)
            self.assertEqual(local_names(tree) & taken, set(), path.name)

    def test_methods_and_attributes(self):
        trees = {path.name: ast.parse(path.read_text()) for path in package_files()}
        methods = set().union(*[methods_of(tree) for tree in trees.values()])
        attributes = set().union(*[own_attributes(tree) for tree in trees.values()])
        self.assertEqual(methods & attributes, set())
        kinds = (str, int, list, dict, set, bytes, tuple)
        for name in (methods | attributes) - {"__init__"}:
            self.assertFalse(any(hasattr(kind, name) for kind in kinds), name)
        for name, tree in trees.items():
            called = [node.func for node in ast.walk(tree) if isinstance(node, ast.Call)]
            for func in called:
                if isinstance(func, ast.Attribute):
                    self.assertIn(func.attr, METHODS | methods, (name, func.lineno))
            for node in ast.walk(tree):
                if isinstance(node, ast.Attribute) and node not in called:
                    self.assertIn(node.attr, attributes, (name, node.lineno))

    def test_no_file_imports_in_a_ring(self):
        imports = {
            path.stem: [
                node.module.split(".")[1] for node in ast.parse(path.read_text()).body if isinstance(node, ast.ImportFrom)
            ]
            for path in package_files()
        }
        while imports:
            free = [name for name, needs in imports.items() if not any(need in imports for need in needs)]
            self.assertTrue(free, imports)
            imports = {name: needs for name, needs in imports.items() if name not in free}


if __name__ == "__main__":
    unittest.main()
