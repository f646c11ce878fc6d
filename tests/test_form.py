"""The form of the package: the rules of the language subset that can be read off the files with little effort."""

import ast
import re
import unittest
from pathlib import Path

PACKAGE = Path(__file__).resolve().parent.parent / "wornrigs"
BUILTINS = set(
    "len range enumerate zip min max sum abs sorted reversed int str bool list tuple dict set isinstance ord repr "
    "any all divmod".split()
)
BARRED_WORDS = (
    r"\b(type|typing|typing_extensions|enum|Enum|IntEnum|StrEnum|Flag|IntFlag|Generic|Protocol|ABC|ABCMeta|namedtuple"
    r"|NamedTuple|TypedDict|TYPE_CHECKING|abstractmethod)\b|dataclass|overload|contextmanager"
)
BARRED_NODES = (ast.Global, ast.AsyncFunctionDef, ast.AsyncFor, ast.AsyncWith, ast.Await, ast.Div, ast.Import)


def files():
    return sorted(PACKAGE.glob("*.py"))


def defined_names(path):
    """The names of the functions, classes and values at module level."""
    for part in ast.parse(path.read_text()).body:
        if isinstance(part, (ast.FunctionDef, ast.ClassDef)):
            yield part.name
        elif isinstance(part, ast.Assign):
            yield part.targets[0].id


def imported_files(path):
    """The files that the file imports from."""
    for node in ast.walk(ast.parse(path.read_text())):
        if isinstance(node, ast.ImportFrom):
            yield PACKAGE / (node.module.split(".")[-1] + ".py")


def bound_names(tree):
    for node in ast.walk(tree):
        if isinstance(node, ast.FunctionDef):
            yield node.name
        elif isinstance(node, ast.arg):
            yield node.arg
        elif isinstance(node, ast.Name) and isinstance(node.ctx, ast.Store):
            yield node.id


class FormTest(unittest.TestCase):
    def test_folder(self):
        others = [path.name for path in PACKAGE.iterdir() if path.suffix != ".py" and path.name != "__pycache__"]
        self.assertEqual(others, [])
        self.assertIn("__init__.py", [path.name for path in files()])

    def test_text(self):
        for path in files():
            text = path.read_text(encoding="utf-8")
            lines = text.split("\n")
            self.assertRegex(text, r"\A[ -~\n]*\Z", path)
            self.assertLessEqual(len(lines), 399, path)
            self.assertLessEqual(max(len(line) for line in lines), 120, path)
            self.assertIsNone(re.search(BARRED_WORDS, text), path)

    def test_statements(self):
        for path in files():
            for node in ast.walk(ast.parse(path.read_text())):
                self.assertNotIsInstance(node, BARRED_NODES, path)
                if isinstance(node, ast.FunctionDef):
                    self.assertLessEqual(node.end_lineno - node.lineno + 1, 40, node.name)
                    self.assertEqual(node.decorator_list, [])
                if isinstance(node, ast.Constant):
                    self.assertNotIsInstance(node.value, (float, complex))

    def test_imports(self):
        for path in files():
            for node in ast.walk(ast.parse(path.read_text())):
                if isinstance(node, ast.ImportFrom):
                    source = PACKAGE / (node.module.split(".")[-1] + ".py")
                    self.assertEqual((node.module.split(".")[0], node.level), ("wornrigs", 0))
                    defined = list(defined_names(source))
                    for alias in node.names:
                        self.assertIn(alias.name, defined)
                        self.assertIsNone(alias.asname)

    def test_no_circle_of_imports(self):
        for path in files():
            reached, waiting = set(), [path]
            while waiting:
                fresh = set(imported_files(waiting.pop())) - reached
                reached |= fresh
                waiting.extend(fresh)
            self.assertNotIn(path, reached)

    def test_one_binding_at_module_level(self):
        for path in files():
            imported = [
                alias.name for node in ast.walk(ast.parse(path.read_text())) if isinstance(node, ast.ImportFrom)
                for alias in node.names
            ]
            bound = list(defined_names(path)) + imported
            self.assertEqual(len(set(bound)), len(bound), path)

    def test_names(self):
        builtin_names = set(dir(__builtins__) if not isinstance(__builtins__, dict) else __builtins__)
        for path in files():
            tree = ast.parse(path.read_text())
            bound = list(bound_names(tree))
            imported = [
                alias.name for node in ast.walk(tree) if isinstance(node, ast.ImportFrom) for alias in node.names
            ]
            for name in bound:
                self.assertRegex(name, r"\A[A-Za-z][A-Za-z0-9_]*\Z")
                self.assertNotIn(name, builtin_names, path)
                self.assertNotIn(name, imported, path)
            for node in ast.walk(tree):
                if isinstance(node, ast.Name) and isinstance(node.ctx, ast.Load):
                    self.assertIn(node.id, BUILTINS | set(bound) | set(imported), path)


if __name__ == "__main__":
    unittest.main()
