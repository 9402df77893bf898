"""The package's files keep to the small part of Python that the program is written in.

What is looked at here: what stands in the folder, the signs, the size, the imports, the kinds of statement and
expression, where `is` stands, what is walked at once, which names are given, and Python's own names. That also keeps
out clock, chance and files (point 1), as none of them can be had without an import or a built-in name that is not on
the list.
"""

import ast
import builtins
import pathlib
import re
import unittest

PACKAGE = pathlib.Path(__file__).resolve().parent.parent / "benchrota"

OWN_NAMES = set(
    "len range enumerate zip min max sum abs sorted reversed int str bool list tuple dict set frozenset isinstance"
    " ord repr any all divmod Exception ValueError TypeError KeyError IndexError LookupError ZeroDivisionError"
    " ArithmeticError OverflowError RuntimeError NotImplementedError AttributeError StopIteration".split()
)
METHODS = set(
    "append clear copy count endswith extend find get index insert isalnum isalpha isdigit islower isspace isupper"
    " items join keys ljust lower lstrip partition pop remove replace reverse rfind rjust rpartition rsplit rstrip"
    " setdefault split splitlines startswith strip update upper values zfill bit_length".split()
)
TWO_UNDERSCORES = {"__init__", "__eq__", "__repr__", "__str__", "__len__"}
WORDS_NOWHERE = re.compile(
    r"\b(type|typing|typing_extensions|enum|Enum|IntEnum|StrEnum|Flag|IntFlag|Generic|Protocol|ABC|ABCMeta"
    r"|namedtuple|NamedTuple|TypedDict|TYPE_CHECKING|abstractmethod)\b|dataclass|overload|contextmanager"
)
NAMES_NOWHERE = set(
    "register mro elements open input version_info with_traceback add_note attrgetter builtins gc importlib"
    " methodcaller os sys format format_map".split()
)
KINDS = (
    ast.Module, ast.ImportFrom, ast.alias, ast.FunctionDef, ast.arguments, ast.arg, ast.ClassDef, ast.Lambda,
    ast.Assign, ast.AugAssign, ast.If, ast.While, ast.For, ast.Return, ast.Break, ast.Continue, ast.Pass, ast.Raise,
    ast.Try, ast.ExceptHandler, ast.Expr, ast.Constant, ast.Name, ast.Attribute, ast.Subscript, ast.Slice,
    ast.List, ast.Tuple, ast.Dict, ast.Set, ast.BinOp, ast.UnaryOp, ast.BoolOp, ast.Compare, ast.IfExp, ast.Call,
    ast.keyword, ast.ListComp, ast.comprehension, ast.JoinedStr, ast.FormattedValue,
    ast.expr_context, ast.operator, ast.unaryop, ast.boolop, ast.cmpop,
)
PLAIN_NAME = re.compile(r"[A-Za-z][A-Za-z0-9_]*\Z")
WALKED_AT_ONCE = {"zip", "enumerate", "reversed", "range", "items", "keys", "values"}
WALKING = {"list", "tuple", "dict", "sorted", "sum", "any", "all", "enumerate", "zip", "min", "max", "join"}


def faults_of_signs(text):
    faults = [f"sign {sign!r}" for sign in text if not (" " <= sign <= "~" or sign == "\n")]
    faults += [f"line of {len(row)} signs" for row in text.split("\n") if len(row) > 120]
    faults += [f"word {found.group()}" for found in WORDS_NOWHERE.finditer(text)]
    if text.count("\n") > 400:
        faults.append("file of more than 400 lines")
    return faults


def bound_names(tree):
    names = []
    for node in ast.walk(tree):
        if isinstance(node, (ast.FunctionDef, ast.ClassDef)):
            names.append(node.name)
        elif isinstance(node, ast.arg):
            names.append(node.arg)
        elif isinstance(node, ast.Name) and isinstance(node.ctx, ast.Store):
            names.append(node.id)
        elif isinstance(node, ast.ExceptHandler) and node.name:
            names.append(node.name)
        elif isinstance(node, ast.alias):
            names.append(node.asname or node.name)
    return names


def own_attributes(tree):
    names = {node.name for node in ast.walk(tree) if isinstance(node, ast.FunctionDef)}
    for node in ast.walk(tree):
        if isinstance(node, ast.Attribute) and isinstance(node.ctx, ast.Store):
            names.add(node.attr)
    return names


def faults_of_node(node):
    if not isinstance(node, KINDS) or isinstance(node, (ast.Div, ast.MatMult)):
        return [f"kind {node.__class__.__name__}"]
    if isinstance(node, ast.ImportFrom) and (node.level or not node.module.startswith("benchrota.")):
        return [f"import from {node.module}"]
    if isinstance(node, (ast.FunctionDef, ast.ClassDef)) and node.decorator_list:
        return [f"decorator at {node.name}"]
    if isinstance(node, ast.FunctionDef) and node.end_lineno - node.lineno + 1 > 40:
        return [f"function {node.name} of more than 40 lines"]
    if isinstance(node, ast.arguments) and (node.vararg or node.kwarg or node.kwonlyargs or node.posonlyargs):
        return ["parameters that are not plain"]
    if isinstance(node, (ast.For, ast.While)) and node.orelse:
        return ["else behind a loop"]
    if isinstance(node, ast.Try) and node.finalbody:
        return ["finally"]
    if isinstance(node, ast.Assign) and len(node.targets) > 1:
        return ["several targets"]
    if isinstance(node, ast.ExceptHandler) and node.type is None:
        return ["except without a name"]
    if isinstance(node, ast.ListComp) and (len(node.generators) > 1 or len(node.generators[0].ifs) > 1):
        return ["a comprehension with more than one for or if"]
    if isinstance(node, ast.Compare) and isinstance(node.ops[0], (ast.Is, ast.IsNot)):
        beside = node.comparators[0]
        if not (isinstance(beside, ast.Constant) and (beside.value is None or isinstance(beside.value, bool))):
            return ["is beside another value than None, True and False"]
    if isinstance(node, ast.Constant) and isinstance(node.value, str) and "%" in node.value:
        return ["a percent sign within a text"]
    if isinstance(node, ast.Constant) and not (node.value is None or isinstance(node.value, (bool, int, str))):
        return [f"value {node.value!r}"]
    if isinstance(node, ast.Name) and node.id in dir(builtins) and node.id not in OWN_NAMES:
        return [f"name {node.id}"]
    if isinstance(node, (ast.Name, ast.Attribute)):
        name = node.id if isinstance(node, ast.Name) else node.attr
        return [f"name {name}"] if name in NAMES_NOWHERE else []
    return []


def name_called(node):
    called = node.func
    return called.id if isinstance(called, ast.Name) else getattr(called, "attr", None)


def faults_of_walks(tree):
    walked = []
    for node in ast.walk(tree):
        if isinstance(node, (ast.For, ast.comprehension)):
            walked.append(node.iter)
        elif isinstance(node, ast.Call) and name_called(node) in WALKING:
            walked += node.args if name_called(node) == "zip" else node.args[:1]
    calls = [node for node in ast.walk(tree) if isinstance(node, ast.Call) and name_called(node) in WALKED_AT_ONCE]
    return [f"{name_called(node)} is not walked at once" for node in calls if node not in walked]


def faults_of_names(tree):
    taken = {node.name for node in tree.body if isinstance(node, ast.ClassDef)}
    taken |= {alias.name for node in tree.body if isinstance(node, ast.ImportFrom) for alias in node.names}
    names = [node.arg for node in ast.walk(tree) if isinstance(node, ast.arg)]
    names += [node.id for node in ast.walk(tree) if isinstance(node, ast.Name) and isinstance(node.ctx, ast.Store)]
    faults = [f"local name {name} of a class or an import" for name in names if name in taken]
    methods = {
        part.name for node in ast.walk(tree) if isinstance(node, ast.ClassDef) for part in node.body
        if isinstance(part, ast.FunctionDef)
    }
    values = {
        node.attr for node in ast.walk(tree) if isinstance(node, ast.Attribute) and isinstance(node.ctx, ast.Store)
    }
    faults += [f"{name} is a method and a value" for name in sorted(methods & values)]
    return faults


def faults_of(text, others=()):
    """What in a file's text is outside the form, as a list of texts; `others` are the texts of the files beside it."""
    tree = ast.parse(text)
    faults = faults_of_signs(text) + faults_of_walks(tree) + faults_of_names(tree)
    attributes = METHODS | TWO_UNDERSCORES | own_attributes(tree)
    for other in others:
        attributes |= own_attributes(ast.parse(other))
    for node in ast.walk(tree):
        faults += faults_of_node(node)
        if isinstance(node, ast.Attribute) and node.attr not in attributes:
            faults.append(f"attribute {node.attr}")
    for name in bound_names(tree):
        if name not in TWO_UNDERSCORES and (not PLAIN_NAME.match(name) or name in dir(builtins)):
            faults.append(f"bound name {name}")
    return faults


def drawn_from(texts):
    """For each file's text the names that it draws, as pairs of a file and a name."""
    drawn = {}
    for name, text in texts.items():
        rows = [node for node in ast.walk(ast.parse(text)) if isinstance(node, ast.ImportFrom)]
        drawn[name] = [(row.module.rpartition(".")[2], alias.name) for row in rows for alias in row.names]
    return drawn


def defined_in(text):
    return {node.name for node in ast.parse(text).body if isinstance(node, (ast.FunctionDef, ast.ClassDef))}


class ThePackage(unittest.TestCase):
    def test_only_plain_files_lie_in_it(self):
        names = sorted(path.name for path in PACKAGE.iterdir() if path.name != "__pycache__")
        self.assertIn("__init__.py", names)
        for name in names:
            self.assertRegex(name, r"\A([a-z][a-z0-9_]*|__init__|__main__)\.py\Z")

    def texts(self):
        return {path.stem: path.read_bytes().decode("utf-8") for path in sorted(PACKAGE.glob("*.py"))}

    def test_each_file_keeps_to_the_form(self):
        texts = self.texts()
        for name, text in texts.items():
            with self.subTest(file=name):
                self.assertEqual(faults_of(text, texts.values()), [])

    def test_each_name_is_drawn_from_the_file_that_defines_it(self):
        texts = self.texts()
        for name, pairs in drawn_from(texts).items():
            for file, drawn in pairs:
                self.assertIn(drawn, defined_in(texts[file]), name)

    def test_no_two_files_draw_from_one_another(self):
        left = {name: {file for file, drawn in pairs} for name, pairs in drawn_from(self.texts()).items()}
        while left:
            free = [name for name in left if not left[name] & set(left)]
            self.assertNotEqual(free, [], left)
            left = {name: left[name] for name in left if name not in free}

    def test_every_file_of_the_interface_is_there(self):
        self.assertLessEqual({"__init__", "errors", "hands", "chains", "day"}, set(self.texts()))


class TheLookItself(unittest.TestCase):
    def test_what_is_within_the_form_is_let_through(self):
        for text in (
            '"""A file."""\n\n\ndef first(xs):\n    return xs[0] if len(xs) > 0 else None\n',
            "from benchrota.errors import NoStep\n\n\ndef refuse():\n    raise NoStep(\"why\")\n",
            "class Held:\n    def __init__(self, tool):\n        self.tool = tool\n\n    def told(self):\n"
            "        return self.tool\n",
            "def f(d):\n    for k, v in d.items():\n        return list(d.values()) if v is None else [k for k in d]\n",
            "def f(xs):\n    return sorted([x for x in reversed(xs)]) + list(range(len(xs)))\n",
        ):
            self.assertEqual(faults_of(text), [], text)

    def test_what_is_outside_the_form_is_found(self):
        for text in (
            "import time\n", "import random\n", "from os import path\n", "from . import errors\n",
            "def f(p):\n    return open(p)\n", "def f():\n    return input()\n", "def f(x):\n    return hash(x)\n",
            "def f(x):\n    print(x)\n", "def f(x):\n    return x / 2\n", "a = 1.5\n", "a = b'x'\n",
            "def f(*xs):\n    return xs\n", "def f(**xs):\n    return xs\n", "def f():\n    global a\n",
            "def f(xs):\n    xs.sort()\n", "def f(x):\n    return {y for y in x}\n", "a = b = 1\n",
            "def f(xs):\n    return sum(x for x in xs)\n", "def f(xs):\n    with xs:\n        pass\n",
            "def f(x):\n    assert x\n", "def f(x):\n    yield x\n", "def f(x):\n    return (y := x)\n",
            "def f(xs):\n    for x in xs:\n        pass\n    else:\n        pass\n", "def _f():\n    pass\n",
            "def f(id):\n    return id\n", "# of another type\n", "# caf\u00e9\n", "def f():\n\treturn 1\n",
            "a = 1  # " + "x" * 120 + "\n", "def f(x):\n" + "    x = x + 1\n" * 41, "a = 1\n" * 401,
            "def f(x):\n    try:\n        x()\n    except:\n        pass\n",
            "def f(x, y):\n    return x is y\n", "def f(x):\n    return x is not 1\n",
            "def f(d):\n    return 1 in d.values()\n", "def f(n):\n    r = range(n)\n    return r\n", "a = 'x%d'\n",
            "from benchrota.errors import NoStep\n\n\ndef f(NoStep):\n    return NoStep\n",
            "class A:\n    def __init__(self):\n        self.told = 1\n\n    def told(self):\n        return 1\n",
        ):
            self.assertNotEqual(faults_of(text), [], text)


if __name__ == "__main__":
    unittest.main()
