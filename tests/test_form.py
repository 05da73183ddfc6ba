"""The form that the package's files keep to: LANGUAGE.md, rule by rule.

Where the program has no need of what a rule allows (sets, errors, annotations, lists at a file's top, __main__.py),
the check is the shorter one that there's none of it. What is looked at in L15 and L23 is told by names alone.
"""

import ast
import builtins
import io
import pathlib
import re
import tokenize
import unittest

import typecase

PACKAGE = pathlib.Path(typecase.__file__).parent

STATEMENTS = (
    ast.Assign, ast.AugAssign, ast.If, ast.While, ast.For, ast.Return, ast.Break, ast.Continue, ast.Pass, ast.FunctionDef,
)
EXPRESSIONS = (
    ast.BoolOp, ast.BinOp, ast.UnaryOp, ast.Lambda, ast.IfExp, ast.Dict, ast.List, ast.Tuple, ast.ListComp, ast.Compare,
    ast.Call, ast.Constant, ast.Attribute, ast.Subscript, ast.Slice, ast.Name, ast.JoinedStr, ast.FormattedValue,
)
OPERATORS = (
    ast.Add, ast.Sub, ast.Mult, ast.FloorDiv, ast.Mod, ast.Pow, ast.BitAnd, ast.BitOr, ast.BitXor, ast.LShift,
    ast.RShift, ast.Not, ast.USub, ast.UAdd, ast.Invert,
)
ERRORS = (
    "Exception ValueError TypeError KeyError IndexError LookupError ZeroDivisionError ArithmeticError OverflowError "
    "RuntimeError NotImplementedError AttributeError StopIteration").split()
# set, frozenset and chr are not among them: the program has no sets, and L27 takes chr out.
OWN_CALLS = (
    "len range enumerate zip min max sum abs sorted reversed int str bool list tuple dict isinstance ord repr any all "
    "divmod").split()
OWN_METHODS = (
    "append clear copy count endswith extend find get index insert isalnum isalpha isdigit islower isspace isupper "
    "items join keys ljust lower lstrip partition pop remove replace reverse rfind rjust rpartition rsplit rstrip "
    "setdefault split splitlines startswith strip update upper values zfill bit_length").split()
CHANGES = "append clear extend insert pop remove reverse setdefault update".split()
OWN_KEYWORDS = {
    "sorted": ["key", "reverse"], "min": ["key", "default"], "max": ["key", "default"], "sum": ["start"],
    "enumerate": ["start"], "zip": ["strict"],
}
KEYS = "len int str abs sum min max tuple".split()
WALKED = "zip enumerate reversed range".split()
WALKERS = "list tuple dict sorted sum any all enumerate zip".split()
UNDERSCORED = ["__init__", "__eq__", "__repr__", "__str__", "__len__"]
NEVER = "register mro elements open input version_info with_traceback add_note format format_map".split()
FRAMES = re.compile(r"^(f|tb|co|gi|cr|ag)_[a-z]+$")
NOT_NAMES = (
    "attrgetter breakpoint builtins compile copyright credits delattr dir eval exec exit gc getattr globals hasattr "
    "help id importlib license locals methodcaller os quit setattr super type vars sys __name__").split()
LAST_WORDS = (
    "type typing typing_extensions enum Enum IntEnum StrEnum Flag IntFlag Generic Protocol ABC ABCMeta namedtuple "
    "NamedTuple TypedDict TYPE_CHECKING abstractmethod").split()
WORDS = re.compile(r"\b(" + "|".join(LAST_WORDS) + r")\b|dataclass|overload|contextmanager")
FILE_NAMES = "test tests testing site conftest sitecustomize usercustomize".split() + LAST_WORDS + dir(builtins)
PLAIN = re.compile(r"^[A-Za-z][A-Za-z0-9_]*$")
OF_VALUES = {name for kind in (str, int, list, dict, set, bytes, tuple, frozenset) for name in dir(kind)}
VALUES_TOO = "count index title find get join lower upper split strip copy add".split()


class File:
    def __init__(self, path, text):
        self.path = path
        self.text = text
        self.tree = ast.parse(text)
        self.nodes = list(ast.walk(self.tree))
        self.above = {child: node for node in self.nodes for child in ast.iter_child_nodes(node)}

    def of(self, *kinds):
        return [node for node in self.nodes if isinstance(node, kinds)]

    def defs(self):
        return [node.name for node in self.tree.body if isinstance(node, ast.FunctionDef)]

    def classes(self):
        return [node.name for node in self.tree.body if isinstance(node, ast.ClassDef)]

    def imports(self):
        return [alias.asname or alias.name for node in self.of(ast.ImportFrom) for alias in node.names]

    def top_names(self):
        given = [target.id for node in self.tree.body if isinstance(node, ast.Assign)
                 for target in node.targets if isinstance(target, ast.Name)]
        return self.defs() + self.classes() + self.imports() + given

    def locals(self):
        stored = [node.id for node in self.of(ast.Name) if isinstance(node.ctx, ast.Store)
                  and self.above[node] not in self.tree.body]
        return stored + [node.arg for node in self.of(ast.arg)]

    def methods(self):
        return [node.name for one in self.of(ast.ClassDef) for node in one.body if isinstance(node, ast.FunctionDef)]

    def values(self):
        return [node.attr for node in self.of(ast.Attribute) if isinstance(node.ctx, ast.Store)]


def module_of(path):
    return "typecase." + path[:-3].replace("/", ".")


def over_all(files, which):
    return [name for one in files for name in which(one)]


def is_plain(node, functions=()):
    if isinstance(node, (ast.List, ast.Tuple)):
        return all(is_plain(each, functions) for each in node.elts)
    if isinstance(node, ast.Dict):
        return all(each is not None and is_plain(each, functions) for each in node.keys + node.values)
    if isinstance(node, ast.UnaryOp):
        return isinstance(node.op, ast.USub) and isinstance(node.operand, ast.Constant)
    if isinstance(node, ast.Name):
        return node.id in functions
    return isinstance(node, ast.Constant)


def called(node):
    return node.func.id if isinstance(node, ast.Call) and isinstance(node.func, ast.Name) else None


def paths_1_14(file, files):
    folders = file.path.split("/")[:-1]
    if not re.match(r"^([a-z0-9_]+/)*[a-z0-9_]+\.py$", file.path):
        yield 1
    for name in file.path[:-3].split("/"):
        if name in FILE_NAMES or name.startswith("test_"):
            yield 14
    for count in range(len(folders) + 1):
        if "/".join(folders[:count] + ["__init__.py"]) not in [one.path for one in files]:
            yield 14
    if re.search(r"[^ -~\n]", file.text):
        yield 14


def imports_2_16(file, files):
    tops = {module_of(one.path): one.top_names() for one in files}
    for node in file.of(ast.Import):
        yield 2
    for node in file.of(ast.ImportFrom):
        if node not in file.tree.body or node.level or not node.module.startswith("typecase."):
            yield 2
        for alias in node.names:
            if alias.name not in tops.get(node.module, []) or node.module.endswith("__main__"):
                yield 16
    if file.path.endswith("__init__.py"):
        for one in files:
            if one.path.split("/")[-1][:-3] in file.top_names():
                yield 16


def cycles_16(file, files):
    drawn = {}
    for one in files:
        modules = [node.module or "" for node in one.of(ast.ImportFrom)]
        drawn[module_of(one.path)] = modules + ["typecase.__init__"] * (len(modules) > 0)
    reached, open_ones = set(), drawn[module_of(file.path)]
    while open_ones:
        reached.update(open_ones)
        open_ones = [there for one in open_ones for there in drawn.get(one, []) if there not in reached]
    if module_of(file.path) in reached:
        yield 16


def top_3(file, files):
    for place, node in enumerate(file.tree.body):
        if isinstance(node, (ast.ImportFrom, ast.Import, ast.FunctionDef, ast.ClassDef)):
            continue
        if isinstance(node, ast.Expr) and isinstance(node.value, ast.Constant) and place == 0:
            continue
        above = [one.name for one in file.tree.body[:place] if isinstance(one, ast.FunctionDef)]
        if not isinstance(node, ast.Assign) or not is_plain(node.value, above):
            yield 3
        elif not isinstance(node.targets[0], ast.Name):
            yield 3


def functions_4_21(file, files):
    for node in file.of(ast.FunctionDef, ast.Lambda):
        told = node.args
        if told.vararg or told.kwarg or told.kwonlyargs or told.posonlyargs:
            yield 4
        if not all(isinstance(value, (ast.Constant, ast.UnaryOp)) for value in told.defaults):
            yield 4
        if getattr(node, "decorator_list", []):
            yield 4
        if getattr(node, "returns", None) or any(each.annotation for each in told.args):
            yield 21
    for node in file.of(ast.AnnAssign):
        yield 21


def classes_5_18_28(file, files):
    names = over_all(files, File.classes)
    for node in file.of(ast.ClassDef):
        if node not in file.tree.body:
            yield 15
        if len(node.bases) > 1 or node.keywords or node.decorator_list:
            yield 5
        for base in node.bases:
            if not isinstance(base, ast.Name) or base.id not in names + ERRORS:
                yield 5
            elif base.id in ("StopIteration", "AttributeError"):
                yield 18
        for one in node.body:
            if not isinstance(one, ast.FunctionDef):
                yield 5
            elif one.name.startswith("__") and one.name not in UNDERSCORED:
                yield 5
            elif one.name == "__init__" and any(
                    isinstance(each, ast.Return) and each.value for each in ast.walk(one)):
                yield 28
            elif one.name.startswith("__") and one.name != "__init__":
                # "Best: don't write them."
                yield 28
        methods = [one.name for one in node.body if isinstance(one, ast.FunctionDef)]
        if len(methods) != len(set(methods)):
            yield 18
    if set(file.methods()) & set(over_all(files, File.values)):
        yield 18
    for node in file.of(ast.Name):
        if node.id in names:
            above = file.above[node]
            if not (isinstance(above, ast.Call) and above.func is node or isinstance(above, ast.ClassDef)
                    or called(above) == "isinstance"):
                yield 18
    for node in file.of(ast.Attribute):
        if isinstance(node.ctx, ast.Store):
            if not isinstance(node.value, ast.Name) or node.value.id in file.top_names():
                yield 18


def statements_6_19(file, files):
    for node in file.of(ast.stmt):
        if isinstance(node, (ast.Try, ast.Raise)):
            # The document names no error: the program raises and takes none.
            yield 19
        elif isinstance(node, (ast.Expr, ast.ImportFrom, ast.ClassDef)):
            if isinstance(node, ast.Expr) and not isinstance(node.value, ast.Call) and node is not file.tree.body[0]:
                yield 6
        elif not isinstance(node, STATEMENTS):
            yield 6
        elif isinstance(node, ast.Assign) and len(node.targets) != 1:
            yield 6
        elif isinstance(node, (ast.For, ast.While)) and node.orelse:
            yield 6


def expressions_7_20_27(file, files):
    for node in file.of(ast.expr):
        if isinstance(node, ast.Set):
            yield 24
        elif not isinstance(node, EXPRESSIONS):
            yield 7
    for node in file.of(ast.operator, ast.unaryop):
        if not isinstance(node, OPERATORS):
            yield 7
    for node in file.of(ast.Constant):
        if node.value is not None and not isinstance(node.value, (int, str)):
            yield 7
        elif isinstance(node.value, str) and "%" in node.value:
            yield 27
    for node in file.of(ast.ListComp):
        if len(node.generators) != 1 or len(node.generators[0].ifs) > 1:
            yield 7
    for node in file.of(ast.FormattedValue):
        if not isinstance(node.value, ast.Name) or node.conversion not in (-1, 114) or node.format_spec:
            yield 7
    for node in file.of(ast.Compare):
        sides = [node.left] + node.comparators
        for place, sign in enumerate(node.ops):
            two = sides[place:place + 2]
            if isinstance(sign, (ast.Is, ast.IsNot)) and not any(
                    isinstance(one, ast.Constant) and one.value in (None, True, False) for one in two):
                yield 20
    for node in file.of(ast.BinOp):
        if isinstance(node.op, ast.Pow):
            if not isinstance(node.right, ast.Constant) or not 0 <= node.right.value <= 64:
                yield 27
    for token in tokenize.generate_tokens(io.StringIO(file.text).readline):
        if token.type == tokenize.STRING and re.search(r"\\[^nt\\'\"]", token.string.replace("\\\\", "")):
            yield 27
        if token.type == tokenize.NUMBER and len(token.string) > 900:
            yield 27


def names_8_12_15_17(file, files):
    bound = file.top_names() + file.locals() + file.defs() + [node.name for node in file.of(ast.FunctionDef)]
    attributes = [node.attr for node in file.of(ast.Attribute)]
    for name in bound + attributes:
        if not PLAIN.match(name) and name not in UNDERSCORED:
            yield 12
        if name in NEVER or FRAMES.match(name):
            yield 17
    for name in [node.id for node in file.of(ast.Name)] + bound:
        if name in NOT_NAMES or name in NEVER:
            yield 17
    for node in file.of(ast.Name):
        if isinstance(node.ctx, ast.Load) and node.id not in bound + OWN_CALLS + ERRORS:
            yield 24 if node.id in ("set", "frozenset") else 8
    if len(file.top_names()) != len(set(file.top_names())):
        yield 15
    for name in file.top_names():
        if name in dir(builtins):
            yield 8
    for name in file.locals():
        if name in file.classes() + file.imports() or name in dir(builtins):
            yield 15
    for node in file.tree.body:
        # Tuples alone stand at a file's top: nothing can be kept in one.
        if isinstance(node, ast.Assign) and any(isinstance(one, (ast.List, ast.Dict)) for one in ast.walk(node.value)):
            yield 15
    if WORDS.search(file.text):
        yield 17


def sizes_10(file, files):
    rows = file.text.split("\n")
    if len(rows) > 401 or max(len(row) for row in rows) > 120 or "\t" in file.text:
        yield 10
    for node in file.of(ast.FunctionDef):
        if node.end_lineno - node.lineno + 1 > 40:
            yield 10


def lambdas_13(file, files):
    told = [(node.lineno, ast.dump(node.args)) for node in file.of(ast.Lambda)]
    if len(told) != len(set(told)):
        yield 13


def own_calls_22(file, files):
    for node in file.of(ast.Name):
        if node.id in OWN_CALLS:
            above = file.above[node]
            if isinstance(above, ast.Call) and above.func is node:
                continue
            if isinstance(above, ast.keyword) and above.arg == "key" and node.id in KEYS:
                continue
            if called(above) == "isinstance" or called(file.above.get(above)) == "isinstance":
                continue
            yield 22
    for node in file.of(ast.Call):
        for keyword in node.keywords:
            name = called(node)
            if name in OWN_CALLS + ERRORS and keyword.arg not in OWN_KEYWORDS.get(name, []):
                yield 22
            if keyword.arg is None or isinstance(node.func, ast.Attribute) and node.func.attr in OWN_METHODS:
                yield 22


def is_walked(node):
    return called(node) in WALKED or (
        isinstance(node, ast.Call) and isinstance(node.func, ast.Attribute)
        and node.func.attr in ("items", "keys", "values"))


def walks_23(file, files):
    for node in file.of(ast.Call):
        if is_walked(node):
            above = file.above[node]
            if isinstance(above, (ast.For, ast.comprehension)) and above.iter is node:
                continue
            if called(above) in WALKERS and (above.args[0] is node or called(above) == "zip"):
                continue
            if called(above) in ("min", "max") and above.args == [node]:
                continue
            if isinstance(above, ast.Call) and isinstance(above.func, ast.Attribute) and above.func.attr == "join":
                continue
            yield 23
    for loop in file.of(ast.For):
        walked = [ast.unparse(loop.iter)]
        if isinstance(loop.iter, ast.Call):
            walked = [ast.unparse(each) for each in loop.iter.args]
            if isinstance(loop.iter.func, ast.Attribute):
                walked.append(ast.unparse(loop.iter.func.value))
        for node in [each for row in loop.body for each in ast.walk(row)]:
            if isinstance(node, ast.Subscript) and isinstance(node.ctx, ast.Store):
                changed = node.value
            elif isinstance(node, ast.AugAssign):
                changed = node.target
            elif isinstance(node, ast.Attribute) and node.attr in CHANGES:
                changed = node.value
            else:
                continue
            if ast.unparse(changed) in walked:
                yield 23


def methods_25_26(file, files):
    methods, values = over_all(files, File.methods), over_all(files, File.values)
    for node in file.of(ast.Attribute):
        above = file.above[node]
        if isinstance(above, ast.Call) and above.func is node:
            if node.attr not in methods + OWN_METHODS:
                yield 25
        elif node.attr not in values:
            yield 25
    for name in file.methods():
        if name in OF_VALUES and name not in OWN_METHODS + UNDERSCORED + ["add", "discard"]:
            yield 26
    for name in file.values():
        if name in OF_VALUES and name not in VALUES_TOO or name == "args":
            yield 26


RULES = (
    paths_1_14, imports_2_16, cycles_16, top_3, functions_4_21, classes_5_18_28, statements_6_19, expressions_7_20_27,
    names_8_12_15_17, sizes_10, lambdas_13, own_calls_22, walks_23, methods_25_26,
)


def faults(files):
    return {(one.path, rule) for one in files for check in RULES for rule in check(one, files)}


def rules_broken(text, path="house.py", others=()):
    files = [File("__init__.py", ""), File(path, text)] + [File(*other) for other in others]
    return sorted({rule for path, rule in faults(files)})


RIGHT = '''"""What is right."""

from typecase.other import more

LEAST = -3
NAMES = ("a", "b")


class Row(ValueError):
    def __init__(self, parts):
        self.parts = list(parts)

    def longest(self):
        return max(self.parts, key=len)


def first(rows, most=5):
    found = []
    for place, row in enumerate(rows):
        if row is None or place > most and not row < LEAST:
            continue
        found.append(more(row) if place & 1 else row ** 2)
    found = sorted(found, key=lambda one: one, reverse=True)
    text = f"{most} of {most!r}\\n"
    return (Row(found[1:]), [each for each in found if each], {1: ~most, 2: text.strip()})


CALLS = (first, 3)
'''


class Form(unittest.TestCase):
    def test_the_package(self):
        files = [File(path.relative_to(PACKAGE).as_posix(), path.read_text(encoding="utf-8"))
                 for path in sorted(PACKAGE.rglob("*.py"))]
        self.assertGreater(len(files), 2)
        self.assertEqual(faults(files), set())

    def test_nothing_else_lies_in_the_package(self):
        for path in PACKAGE.rglob("*"):
            if "__pycache__" not in path.parts:
                self.assertTrue(path.is_dir() or path.suffix == ".py", path)


class TheCheck(unittest.TestCase):
    """That the check sees what it is there for."""

    def test_what_is_right(self):
        self.assertEqual(rules_broken(RIGHT, others=[("other.py", "def more(row):\n    return row\n")]), [])

    def test_paths(self):
        for path, rule in (("House.py", 1), ("a-b.py", 1), ("range.py", 14), ("test_a.py", 14), ("deep/a.py", 14),
                           ("typing.py", 14)):
            self.assertEqual(rules_broken("", path), [rule], path)

    def test_imports(self):
        other = [("other.py", "from typecase.house import first\n\n\ndef more():\n    return first()\n")]
        self.assertEqual(rules_broken("from typecase.other import more\n\n\ndef first():\n    return more()\n",
                                      others=other), [16])
        self.assertEqual(rules_broken("from typecase.other import less\n", others=other[:0]), [16])
        self.assertIn(2, rules_broken("import sys\n"))
        self.assertIn(2, rules_broken("from .other import more\n"))
        self.assertIn(2, rules_broken("from random import choice\n"))

    def test_tops(self):
        for text, rule in (
                ("A = len('x')\n", 3), ("for a in (1, 2):\n    pass\n", 3), ("A = 1\nA = 2\n", 15), ("A = [1]\n", 15),
                ("A = {}\n", 15), ("class A:\n    b = 1\n", 5), ("class A(list):\n    pass\n", 5),
                ("class A:\n    def __iter__(self):\n        return self\n", 5),
                ("class A:\n    def __len__(self):\n        return 1\n", 28),
                ("class A:\n    def __init__(self):\n        return None\n", 28),
                ("class A:\n    def b(self):\n        self.b = 1\n", 18),
                ("class A:\n    def upper_of(self):\n        self.args = 1\n", 26),
                ("class A:\n    def encode(self):\n        return 1\n", 26),
                ("len = 3\n", 8), ("a__ = 3\n__a = 3\n", 12), ("# a word: type\n", 17), ("# \u00e9\n", 14)):
            self.assertIn(rule, rules_broken(text), text)

    def test_bodies(self):
        for row, rule in (
                ("with a:\n        return 1", 6), ("del a", 6), ("assert a", 6), ("a = b = 1", 6), ("'a text'", 6),
                ("for b in a:\n        pass\n    else:\n        pass", 6), ("raise ValueError('a')", 19),
                ("try:\n        return a\n    except KeyError:\n        return 1", 19),
                ("return a / 2", 7), ("return 1.5", 7), ("return b'a'", 7), ("return {b for b in a}", 7),
                ("return sum(b for b in a)", 7), ("return [b for c in a for b in c]", 7), ("return [*a]", 7),
                ("return (b := a)", 7), ("return f'{a:3}'", 7), ("return {1, 2}", 24), ("return set(a)", 24),
                ("return a is 3", 20), ("return 2 ** a", 27), ("return '%'", 27), ("return '\\x41'", 27),
                ("return chr(a)", 8), ("print(a)", 8), ("return hash(a)", 8), ("return getattr(a, 'b')", 17),
                ("list = a", 15), ("_b = a", 12), ("return a.format(1)", 17), ("return a.sort()", 25),
                ("return a.append", 25), ("b = len\n    return b(a)", 22), ("return sorted(a, key=repr)", 22),
                ("return a.split(sep='b')", 22), ("b = range(3)\n    return b", 23), ("b = a.items()\n    return b", 23),
                ("for b in a:\n        a.append(b)", 23), ("for b, c in enumerate(a):\n        a[b] = c", 23),
                ("return [lambda b: b, lambda b: a]", 13), ("b: int = a\n    return b", 21),
                ("return a" + " " * 120, 10), ("b = a\n" * 1 + "    b = a\n" * 40 + "    return b", 10)):
            self.assertIn(rule, rules_broken(f"def first(a):\n    {row}\n"), row)

    def test_heads(self):
        for head, rule in (("def first(*a):", 4), ("def first(**a):", 4), ("def first(*, a):", 4),
                           ("def first(a=[]):", 4), ("def first(a: int):", 21), ("def first(a) -> int:", 21),
                           ("@len\ndef first(a):", 4)):
            self.assertIn(rule, rules_broken(f"{head}\n    return a\n"), head)

    def test_classes_as_values(self):
        row = "class A:\n    def one(self):\n        return 1\n\n\ndef first(a):\n    "
        for last, rules in (("return A()", []), ("return isinstance(a, A)", []), ("return [A]", [18]),
                            ("A.b = a", [18]), ("a.b.c = a.b", [18, 25]), ("A = a", [15, 18])):
            self.assertEqual([rule for rule in rules_broken(row + last + "\n") if rule in rules or not rules], rules)


if __name__ == "__main__":
    unittest.main()
