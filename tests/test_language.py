"""The form of the package: the rules of LANGUAGE.md that a walk over the syntax can see."""

import ast
import pathlib
import re
import unittest

PACKAGE = pathlib.Path(__file__).resolve().parent.parent / "songsamples"

STATEMENTS = (
    ast.Assign, ast.AugAssign, ast.If, ast.While, ast.For, ast.Return, ast.Break, ast.Continue, ast.Pass,
    ast.Raise, ast.Try, ast.Expr, ast.FunctionDef, ast.ClassDef, ast.ImportFrom,
)
EXPRESSIONS = (
    ast.Constant, ast.List, ast.Tuple, ast.Dict, ast.BinOp, ast.UnaryOp, ast.BoolOp, ast.Compare, ast.IfExp,
    ast.Call, ast.Attribute, ast.Subscript, ast.Slice, ast.ListComp, ast.Name, ast.Lambda, ast.JoinedStr,
    ast.FormattedValue,
)
OWN_NAMES = set(
    "len range enumerate zip min max sum abs sorted reversed int str bool list tuple dict set frozenset isinstance "
    "ord repr any all divmod Exception ValueError TypeError KeyError IndexError LookupError ZeroDivisionError "
    "ArithmeticError OverflowError RuntimeError NotImplementedError AttributeError StopIteration".split()
)
METHODS = set(
    "append clear copy count endswith extend find get index insert isalnum isalpha isdigit islower isspace isupper "
    "items join keys ljust lower lstrip partition pop remove replace reverse rfind rjust rpartition rsplit rstrip "
    "setdefault split splitlines startswith strip update upper values zfill bit_length".split()
)
UNUSED = set(
    "register mro elements open input version_info with_traceback add_note attrgetter breakpoint builtins compile "
    "copyright credits delattr dir eval exec exit gc getattr globals hasattr help id importlib license locals "
    "methodcaller os quit setattr super type vars sys __name__ format format_map".split()
)
WORDS = re.compile(
    r"\b(type|typing|typing_extensions|enum|Enum|IntEnum|StrEnum|Flag|IntFlag|Generic|Protocol|ABC|ABCMeta|namedtuple"
    r"|NamedTuple|TypedDict|TYPE_CHECKING|abstractmethod)\b|dataclass|overload|contextmanager"
)
OWN_UNDERSCORED = ("__init__", "__eq__", "__repr__", "__str__", "__len__")
BUILT_IN = set(dir(__builtins__)) if not isinstance(__builtins__, dict) else set(__builtins__)


def faults_of_text(text):
    found = []
    for row, line in enumerate(text.split("\n"), start=1):
        if len(line) > 120:
            found.append(("L10", row))
        if any(not " " <= sign <= "~" for sign in line):
            found.append(("L14", row))
        if WORDS.search(line):
            found.append(("L17", row))
    if text.count("\n") > 400:
        found.append(("L10", 0))
    return found


def bound_at_top(tree):
    names = []
    for node in tree.body:
        if isinstance(node, ast.Assign):
            names += [target.id for target in node.targets if isinstance(target, ast.Name)]
        if isinstance(node, (ast.FunctionDef, ast.ClassDef)):
            names.append(node.name)
        if isinstance(node, ast.ImportFrom):
            names += [alias.name for alias in node.names]
    return names


def is_plain(node):
    if isinstance(node, (ast.Constant, ast.Name)):
        return True
    if isinstance(node, ast.UnaryOp):
        return isinstance(node.op, ast.USub) and isinstance(node.operand, ast.Constant)
    if isinstance(node, (ast.List, ast.Tuple)):
        return all(is_plain(part) for part in node.elts)
    return isinstance(node, ast.Dict) and all(is_plain(part) for part in node.keys + node.values)


def faults_of_top(tree):
    found = []
    for place, node in enumerate(tree.body):
        if isinstance(node, ast.Assign):
            if not is_plain(node.value):
                found.append(("L3", node.lineno))
        elif isinstance(node, ast.Expr):
            if place != 0 or not isinstance(node.value, ast.Constant):
                found.append(("L3", node.lineno))
        elif not isinstance(node, (ast.FunctionDef, ast.ClassDef, ast.ImportFrom)):
            found.append(("L3", node.lineno))
    names = bound_at_top(tree)
    found += [("L15", name) for name in set(names) if names.count(name) > 1]
    return found


def faults_of_def(node):
    found = []
    spots = node.args
    if spots.vararg or spots.kwarg or spots.kwonlyargs or spots.posonlyargs or node.decorator_list:
        found.append(("L4", node.lineno))
    if node.end_lineno - node.lineno + 1 > 40:
        found.append(("L10", node.lineno))
    if node.returns or any(spot.annotation for spot in spots.args):
        found.append(("L21", node.lineno))
    if any(spot.arg in BUILT_IN for spot in spots.args):
        found.append(("L15", node.lineno))
    if any(is_text(part) for part in node.body):
        found.append(("L6", node.lineno))
    return found


def is_text(node):
    return isinstance(node, ast.Expr) and not isinstance(node.value, ast.Call)


def faults_of_class(node):
    found = []
    if node.decorator_list or node.keywords or len(node.bases) > 1:
        found.append(("L5", node.lineno))
    if not all(isinstance(part, (ast.FunctionDef, ast.Pass)) for part in node.body):
        found.append(("L5", node.lineno))
    return found


def faults_of_statement(node):
    found = []
    if not isinstance(node, STATEMENTS):
        found.append(("L6", node.lineno))
    if isinstance(node, ast.Assign) and (len(node.targets) > 1 or isinstance(node.targets[0], (ast.Tuple, ast.List))):
        found.append(("L6", node.lineno))
    if isinstance(node, (ast.For, ast.While)) and node.orelse:
        found.append(("L6", node.lineno))
    if isinstance(node, ast.Try):
        kinds = [handler.type for handler in node.handlers]
        if node.finalbody or not all(isinstance(kind, ast.Name) for kind in kinds):
            found.append(("L6", node.lineno))
        if any(isinstance(kind, ast.Name) and kind.id in ("Exception", "TypeError") for kind in kinds):
            found.append(("L19", node.lineno))
    if isinstance(node, ast.ImportFrom):
        if node.level or not node.module.startswith("songsamples.") or any(part.asname for part in node.names):
            found.append(("L16", node.lineno))
    if isinstance(node, ast.FunctionDef):
        found += faults_of_def(node)
    if isinstance(node, ast.ClassDef):
        found += faults_of_class(node)
    return found


def faults_of_name(name, row):
    if name in OWN_UNDERSCORED:
        return []
    found = []
    if not re.fullmatch(r"[A-Za-z][A-Za-z0-9_]*", name):
        found.append(("L12", row))
    if name in UNUSED:
        found.append(("L17", row))
    return found


def faults_of_value(node):
    found = []
    if isinstance(node, ast.Constant) and isinstance(node.value, (float, complex, bytes)):
        found.append(("L7", node.lineno))
    if isinstance(node, ast.Constant) and isinstance(node.value, str) and "%" in node.value:
        found.append(("L27", node.lineno))
    if isinstance(node, ast.BinOp) and isinstance(node.op, (ast.Div, ast.MatMult)):
        found.append(("L7", node.lineno))
    if isinstance(node, ast.BinOp) and isinstance(node.op, ast.Pow) and not isinstance(node.right, ast.Constant):
        found.append(("L27", node.lineno))
    if isinstance(node, ast.ListComp) and (len(node.generators) > 1 or len(node.generators[0].ifs) > 1):
        found.append(("L7", node.lineno))
    if isinstance(node, ast.Compare) and any(isinstance(op, (ast.Is, ast.IsNot)) for op in node.ops):
        if not all(isinstance(part, ast.Constant) for part in node.comparators):
            found.append(("L20", node.lineno))
    if isinstance(node, ast.Name):
        found += faults_of_name(node.id, node.lineno)
        if isinstance(node.ctx, ast.Store) and node.id in BUILT_IN:
            found.append(("L15", node.lineno))
        if node.id in BUILT_IN and node.id not in OWN_NAMES:
            found.append(("L8", node.lineno))
    if isinstance(node, ast.Attribute):
        found += faults_of_name(node.attr, node.lineno)
    return found


def faults_of_file(text, own_methods):
    tree = ast.parse(text)
    found = faults_of_text(text) + faults_of_top(tree)
    for node in ast.walk(tree):
        if isinstance(node, ast.stmt):
            found += faults_of_statement(node)
        if isinstance(node, ast.expr):
            found += [] if isinstance(node, EXPRESSIONS) else [("L7", node.lineno)]
            found += faults_of_value(node)
        if isinstance(node, (ast.FunctionDef, ast.ClassDef)):
            found += faults_of_name(node.name, node.lineno)
        if isinstance(node, ast.Call) and isinstance(node.func, ast.Attribute):
            if node.func.attr not in METHODS and node.func.attr not in own_methods:
                found.append(("L25", node.lineno))
    return found


def methods_and_values(texts):
    methods = set()
    values = set()
    for text in texts:
        for node in ast.walk(ast.parse(text)):
            if isinstance(node, ast.ClassDef):
                methods |= {part.name for part in node.body if isinstance(part, ast.FunctionDef)}
            if isinstance(node, ast.Attribute) and isinstance(node.ctx, ast.Store):
                values.add(node.attr)
    return methods, values


def imports_of(text):
    found = set()
    for node in ast.walk(ast.parse(text)):
        if isinstance(node, ast.ImportFrom):
            found.add(node.module.split(".")[-1])
    return found


class Package(unittest.TestCase):
    def setUp(self):
        paths = [path for path in sorted(PACKAGE.iterdir()) if path.name != "__pycache__"]
        self.names = [path.name for path in paths]
        self.texts = {path.stem: path.read_text(encoding="ascii") for path in paths}

    def test_files(self):
        self.assertIn("__init__.py", self.names)
        self.assertIn("song.py", self.names)
        for name in self.names:
            with self.subTest(name=name):
                self.assertRegex(name, r"^([a-z][a-z0-9_]*|__init__|__main__)\.py$")
                self.assertNotIn(name[:-3], BUILT_IN | UNUSED)

    def test_rules(self):
        methods = methods_and_values(self.texts.values())[0]
        for name, text in self.texts.items():
            with self.subTest(name=name):
                self.assertEqual(faults_of_file(text, methods), [])

    def test_no_name_is_a_method_and_a_value(self):
        methods, values = methods_and_values(self.texts.values())
        self.assertEqual(methods & values, set())
        taken = set()
        for kind in (str, int, list, tuple, dict, set, bytes):
            taken |= set(dir(kind))
        self.assertEqual((methods | values) & taken - {"__init__"}, set())

    def test_no_two_files_draw_from_one_another(self):
        left = {name: imports_of(text) for name, text in self.texts.items()}
        self.assertEqual(left["__init__"], set())
        while left:
            free = [name for name in left if not left[name] & set(left)]
            self.assertNotEqual(free, [])
            for name in free:
                left.pop(name)


class Finds(unittest.TestCase):
    """The walk itself: each of these rows is outside the rules."""

    def test_faults(self):
        cases = {
            "L3": ("print(1)", "A = 1 + 1", "for k in (1, 2):\n    pass"),
            "L4": ("def f(*a):\n    pass", "def f(a, **b):\n    pass"),
            "L5": ("class A:\n    b = 1",),
            "L6": ("def f(a):\n    a, b = a", "def f(a):\n    assert a", "def f(a):\n    with a:\n        pass"),
            "L7": ("A = 1.5", "def f(a):\n    return a / 2", "def f(a):\n    return {b for b in a}"),
            "L8": ("def f(a):\n    return iter(a)", "def f(a):\n    return chr(a)"),
            "L10": ("def f(a):\n" + "    a = a + 1\n" * 40, "A = 1" + " " * 120),
            "L12": ("def f(a):\n    _b = a",),
            "L14": ("# \u00e4",),
            "L15": ("A = 1\nA = 2", "def f(max):\n    pass"),
            "L16": ("from os import path", "from .song import answers"),
            "L17": ("# its type", "def f(a):\n    return a.elements"),
            "L19": ("def f(a):\n    try:\n        f(a)\n    except Exception:\n        pass",),
            "L20": ("def f(a, b):\n    return a is b",),
            "L21": ("def f(a: int):\n    pass",),
            "L25": ("def f(a):\n    a.sort()",),
            "L27": ("def f(a):\n    return 2 ** a", "A = \"%\""),
        }
        for rule, texts in cases.items():
            for text in texts:
                with self.subTest(rule=rule, text=text):
                    self.assertIn(rule, [fault[0] for fault in faults_of_file(text, set())])


if __name__ == "__main__":
    unittest.main()
