"""What can be seen at a glance of the form that the package's files keep to."""

import ast
import builtins
import pathlib
import re
import unittest

import typecase

PACKAGE = pathlib.Path(typecase.__file__).parent
WORDS = re.compile(
    r"\b(type|typing|typing_extensions|enum|Enum|IntEnum|StrEnum|Flag|IntFlag|Generic|Protocol|ABC|ABCMeta"
    r"|namedtuple|NamedTuple|TypedDict|TYPE_CHECKING|abstractmethod)\b|dataclass|overload|contextmanager")
NOT_USED = (
    ast.With, ast.Match, ast.Delete, ast.Global, ast.Nonlocal, ast.Assert, ast.Yield, ast.YieldFrom, ast.Await,
    ast.AsyncFunctionDef, ast.AsyncFor, ast.AsyncWith, ast.Div, ast.SetComp, ast.DictComp, ast.GeneratorExp,
    ast.NamedExpr, ast.Starred, ast.Import, ast.AnnAssign,
)
OWN_NAMES = (
    "len range enumerate zip min max sum abs sorted reversed int str bool list tuple dict set frozenset isinstance "
    "ord repr any all divmod Exception ValueError TypeError KeyError IndexError LookupError ZeroDivisionError "
    "ArithmeticError OverflowError RuntimeError NotImplementedError StopIteration").split()
OWN_METHODS = (
    "append clear copy count endswith extend find get index insert isalnum isalpha isdigit islower isspace isupper "
    "items join keys ljust lower lstrip partition pop remove replace reverse rfind rjust rpartition rsplit rstrip "
    "setdefault split splitlines startswith strip update upper values zfill bit_length").split()


def sources():
    for path in sorted(PACKAGE.rglob("*.py")):
        text = path.read_text(encoding="utf-8")
        yield path, text, ast.parse(text)


def bound_names(tree):
    names = []
    for node in ast.walk(tree):
        if isinstance(node, (ast.FunctionDef, ast.ClassDef)):
            names.append(node.name)
        elif isinstance(node, ast.arg):
            names.append(node.arg)
        elif isinstance(node, ast.alias):
            names.append(node.asname or node.name)
        elif isinstance(node, ast.Name) and isinstance(node.ctx, ast.Store):
            names.append(node.id)
        elif isinstance(node, ast.Attribute) and isinstance(node.ctx, ast.Store):
            names.append(node.attr)
    return names


class Form(unittest.TestCase):
    def test_only_plain_files(self):
        for path in PACKAGE.rglob("*"):
            if "__pycache__" not in path.parts:
                self.assertRegex(path.name, r"^[a-z0-9_]+\.py$")

    def test_size_and_signs(self):
        for path, text, tree in sources():
            rows = text.split("\n")
            self.assertLessEqual(len(rows), 401, path)
            self.assertLessEqual(max(map(len, rows)), 120, path)
            self.assertRegex(text, r"\A[ -~\n]*\Z", path)
            for node in ast.walk(tree):
                if isinstance(node, ast.FunctionDef):
                    self.assertLessEqual(node.end_lineno - node.lineno + 1, 40, node.name)

    def test_words(self):
        for path, text, tree in sources():
            self.assertIsNone(WORDS.search(text), path)

    def test_statements_and_expressions(self):
        for path, text, tree in sources():
            for node in ast.walk(tree):
                self.assertNotIsInstance(node, NOT_USED, f"{path}:{getattr(node, 'lineno', '')}")
                self.assertFalse(getattr(node, "decorator_list", []), path)
                if isinstance(node, ast.Assign):
                    self.assertEqual(len(node.targets), 1, f"{path}:{node.lineno}")
                if isinstance(node, (ast.For, ast.While)):
                    self.assertEqual(node.orelse, [], f"{path}:{node.lineno}")

    def test_imports_are_the_packages_own(self):
        for path, text, tree in sources():
            for node in ast.walk(tree):
                if isinstance(node, ast.ImportFrom):
                    self.assertEqual(node.level, 0, path)
                    self.assertRegex(node.module, r"^typecase\.", path)
                    self.assertIn(node, tree.body, path)

    def test_names(self):
        plain = re.compile(r"^[A-Za-z][A-Za-z0-9_]*$")
        for path, text, tree in sources():
            names = bound_names(tree)
            for name in names:
                self.assertTrue(plain.match(name) or name == "__init__", f"{path}: {name}")
            for node in ast.walk(tree):
                if isinstance(node, ast.Name) and isinstance(node.ctx, ast.Load):
                    self.assertIn(node.id, names + OWN_NAMES, f"{path}:{node.lineno}")
            for name in names:
                self.assertNotIn(name, dir(builtins), path)

    def test_methods(self):
        own = [node.name for path, text, tree in sources() for node in ast.walk(tree)
               if isinstance(node, ast.FunctionDef)]
        for path, text, tree in sources():
            for node in ast.walk(tree):
                if isinstance(node, ast.Call) and isinstance(node.func, ast.Attribute):
                    self.assertIn(node.func.attr, own + OWN_METHODS, f"{path}:{node.lineno}")


if __name__ == "__main__":
    unittest.main()
