"""Some of the rows of the language, not all, looked for in the package's files; faults bear the row's number."""

import ast
import builtins
import re
import unittest
from pathlib import Path

PACKAGE = Path(__file__).resolve().parent.parent / "samebook"

OWN_NAMES = """len range enumerate zip min max sum abs sorted reversed int str bool list tuple dict set frozenset
    isinstance ord repr any all divmod Exception ValueError TypeError KeyError IndexError LookupError
    ZeroDivisionError ArithmeticError OverflowError RuntimeError NotImplementedError AttributeError
    StopIteration""".split()
METHODS = """append clear copy count endswith extend find get index insert isalnum isalpha isdigit islower isspace
    isupper items join keys ljust lower lstrip partition pop remove replace reverse rfind rjust rpartition rsplit
    rstrip setdefault split splitlines startswith strip update upper values zfill bit_length""".split()
WORDS = """type typing typing_extensions enum Enum IntEnum StrEnum Flag IntFlag Generic Protocol ABC ABCMeta
    namedtuple NamedTuple TypedDict TYPE_CHECKING abstractmethod""".split()
OUT_EVERYWHERE = "register mro elements open input version_info with_traceback add_note format format_map".split()
DUNDERS = "__init__ __eq__ __repr__ __str__ __len__ __all__ __version__".split()

NODES = """Module FunctionDef ClassDef Return Assign AugAssign For While If Raise Try ExceptHandler ImportFrom Expr Pass
    Break Continue BoolOp BinOp UnaryOp Lambda IfExp Dict ListComp comprehension Compare Call JoinedStr FormattedValue
    Constant Attribute Subscript Name List Tuple Slice Set Load Store And Or Add Sub Mult Mod Pow LShift RShift BitOr
    BitXor BitAnd FloorDiv Invert Not UAdd USub Eq NotEq Lt LtE Gt GtE Is IsNot In NotIn arguments arg keyword
    alias""".split()


def own_methods(trees):
    found = []
    for tree in trees:
        for node in ast.walk(tree):
            if isinstance(node, ast.ClassDef):
                found += [item.name for item in node.body if isinstance(item, ast.FunctionDef)]
    return found


def file_faults(text):
    faults = []
    rows = text.split("\n")
    if any(sign != "\n" and not " " <= sign <= "~" for sign in text):
        faults.append("L14 sign")
    if len(rows) > 401 or any(len(row) > 120 for row in rows):
        faults.append("L10 size")
    words = re.findall(r"\w+", text)
    if any(word in WORDS for word in words) or re.search("dataclass|overload|contextmanager", text):
        faults.append("L17 word")
    return faults


def name_faults(name):
    faults = []
    if name in OUT_EVERYWHERE:
        faults.append("L17 " + name)
    if name.startswith("_") and name not in DUNDERS:
        faults.append("L12 " + name)
    return faults


def bound_faults(name):
    return ["L15 " + name] if hasattr(builtins, name) else []


def constant_faults(value):
    if isinstance(value, (float, complex, bytes)) or value is Ellipsis:
        return ["L7 value"]
    if isinstance(value, str) and "%" in value:
        return ["L27 sign in a text"]
    return []


def function_faults(node):
    faults = []
    if node.end_lineno - node.lineno + 1 > 40:
        faults.append("L10 function " + node.name)
    if node.decorator_list:
        faults.append("L4 decorator")
    return faults + name_faults(node.name)


def class_faults(node):
    faults = name_faults(node.name)
    if node.decorator_list or node.keywords or len(node.bases) > 1:
        faults.append("L5 class " + node.name)
    for item in node.body:
        plain = isinstance(item, (ast.FunctionDef, ast.Pass))
        if not plain and not (isinstance(item, ast.Expr) and isinstance(item.value, ast.Constant)):
            faults.append("L5 body of " + node.name)
    return faults


def import_faults(node):
    module = node.module or ""
    plain = node.level == 0 and module.startswith("samebook.") and all(name.name != "*" for name in node.names)
    return [] if plain or module == "__future__" else ["L2 import"]


def is_faults(node):
    sides = [node.left] + node.comparators
    singles = [side for side in sides if isinstance(side, ast.Constant) and side.value in (None, True, False)]
    if any(isinstance(op, (ast.Is, ast.IsNot)) for op in node.ops) and not singles:
        return ["L20 is"]
    return []


def node_faults(node, methods):
    kind = type(node).__name__
    if kind not in NODES:
        return ["L6 or L7 " + kind]
    if isinstance(node, ast.FunctionDef):
        return function_faults(node)
    if isinstance(node, ast.ClassDef):
        return class_faults(node)
    if isinstance(node, ast.ImportFrom):
        return import_faults(node)
    if isinstance(node, ast.Compare):
        return is_faults(node)
    if isinstance(node, ast.Constant):
        return constant_faults(node.value)
    if isinstance(node, ast.arguments) and (node.vararg or node.kwarg or node.kwonlyargs or node.posonlyargs):
        return ["L4 parameters"]
    if isinstance(node, ast.arg):
        return name_faults(node.arg) + bound_faults(node.arg)
    if isinstance(node, ast.Name):
        return used_name_faults(node)
    if isinstance(node, ast.Attribute):
        return name_faults(node.attr)
    if isinstance(node, ast.Call) and isinstance(node.func, ast.Attribute):
        return [] if node.func.attr in METHODS + methods else ["L25 " + node.func.attr]
    if isinstance(node, ast.Assign) and len(node.targets) > 1:
        return ["L6 targets"]
    if isinstance(node, (ast.For, ast.While)) and node.orelse:
        return ["L6 else behind a loop"]
    if isinstance(node, ast.Try) and node.finalbody:
        return ["L6 finally"]
    if isinstance(node, ast.ListComp) and (len(node.generators) > 1 or len(node.generators[0].ifs) > 1):
        return ["L7 comprehension"]
    if isinstance(node, ast.BinOp) and isinstance(node.op, ast.Pow) and not isinstance(node.right, ast.Constant):
        return ["L27 power"]
    return []


def used_name_faults(node):
    faults = name_faults(node.id)
    if isinstance(node.ctx, ast.Store):
        return faults + bound_faults(node.id)
    if hasattr(builtins, node.id) and node.id not in OWN_NAMES:
        faults.append("L8 " + node.id)
    return faults


def faults_of(text, methods):
    tree = ast.parse(text)
    faults = file_faults(text)
    for node in tree.body:
        if not isinstance(node, (ast.Expr, ast.ImportFrom, ast.FunctionDef, ast.ClassDef, ast.Assign)):
            faults.append("L3 top of the file")
    for node in ast.walk(tree):
        faults += node_faults(node, methods)
    return faults


WALKED = ("zip", "enumerate", "reversed", "range")
VIEWS = ("items", "keys", "values")
WALKERS = ("list", "tuple", "dict", "sorted", "sum", "any", "all", "enumerate", "zip", "min", "max")
FREE_METHODS = METHODS + ["add", "discard"]
FREE_VALUES = "count index title find get join lower upper split strip copy add".split()
PYTHONS_OWN = [name for kind in (str, int, list, dict, set, bytes, tuple) for name in dir(kind)]


def walks_on_the_spot(node):
    """The nodes within this one that are walked where they stand."""
    if isinstance(node, (ast.For, ast.comprehension)):
        return [node.iter]
    if isinstance(node, ast.Call) and isinstance(node.func, ast.Name) and node.func.id in WALKERS:
        return node.args[:1]
    if isinstance(node, ast.Call) and isinstance(node.func, ast.Attribute) and node.func.attr == "join":
        return node.args
    return []


def walk_faults(tree):
    fine = [id(inner) for node in ast.walk(tree) for inner in walks_on_the_spot(node)]
    faults = []
    for node in ast.walk(tree):
        if isinstance(node, ast.Call) and id(node) not in fine:
            name = getattr(node.func, "id", getattr(node.func, "attr", ""))
            if name in (WALKED if isinstance(node.func, ast.Name) else VIEWS):
                faults.append("L23 " + name)
    return faults


def own_values(trees):
    found = []
    for tree in trees:
        for node in ast.walk(tree):
            if isinstance(node, ast.Attribute) and isinstance(node.ctx, ast.Store):
                found.append(node.attr)
    return found


def object_faults(trees):
    methods = own_methods(trees)
    values = own_values(trees)
    faults = ["L18 " + name for name in methods if name in values]
    faults += ["L26 " + name for name in values if name in PYTHONS_OWN and name not in FREE_VALUES]
    faults += ["L26 " + name for name in methods if name in PYTHONS_OWN and name not in FREE_METHODS + DUNDERS]
    return faults


def drawn_from(tree):
    return [node.module for node in tree.body if isinstance(node, ast.ImportFrom)]


def circle_faults(trees):
    """Files that draw from one another; `trees` is a dict by the names that imports use."""
    faults = []
    for start in trees:
        reached = []
        waiting = drawn_from(trees[start])
        while waiting:
            module = waiting.pop()
            if module in trees and module not in reached:
                reached.append(module)
                waiting += drawn_from(trees[module])
        if start in reached:
            faults.append("L16 " + start)
    return faults


def shadow_faults(tree):
    """Parameters and locals that are called like a class or an import of their file."""
    taken = [node.name for node in tree.body if isinstance(node, ast.ClassDef)]
    taken += [alias.name for node in tree.body if isinstance(node, ast.ImportFrom) for alias in node.names]
    bound = [node.arg for node in ast.walk(tree) if isinstance(node, ast.arg)]
    bound += [node.id for node in ast.walk(tree) if isinstance(node, ast.Name) and isinstance(node.ctx, ast.Store)]
    return ["L15 " + name for name in bound if name in taken]


class Language(unittest.TestCase):
    def test_only_plain_files(self):
        names = [path.name for path in PACKAGE.iterdir() if path.name != "__pycache__"]
        self.assertIn("__init__.py", names)
        for name in names:
            self.assertRegex(name, r"\A(__init__|[a-z][a-z0-9_]*)\.py\Z")

    def test_every_file(self):
        texts = {path.name: path.read_bytes().decode("utf-8") for path in PACKAGE.glob("*.py")}
        methods = own_methods([ast.parse(text) for text in texts.values()])
        for name, text in sorted(texts.items()):
            with self.subTest(file=name):
                self.assertEqual(faults_of(text, methods), [])

    def test_the_package_as_a_whole(self):
        trees = {"samebook." + path.stem: ast.parse(path.read_text("utf-8")) for path in PACKAGE.glob("*.py")}
        self.assertEqual(circle_faults(trees), [])
        self.assertEqual(object_faults(list(trees.values())), [])
        for name, tree in sorted(trees.items()):
            with self.subTest(file=name):
                self.assertEqual(walk_faults(tree) + shadow_faults(tree), [])

    def test_names_are_drawn_from_the_file_that_defines_them(self):
        for path in PACKAGE.glob("*.py"):
            for node in ast.parse(path.read_text("utf-8")).body:
                if isinstance(node, ast.ImportFrom):
                    source = PACKAGE / (node.module.split(".")[1] + ".py")
                    defined = [getattr(item, "name", "") for item in ast.parse(source.read_text("utf-8")).body]
                    for name in node.names:
                        self.assertIn(name.name, defined)

    def test_faults_are_seen(self):
        for row, text in [
            ("L2", "from os import path\n"),
            ("L3", "if True:\n    x = 1\n"),
            ("L4", "def f(*xs):\n    return xs\n"),
            ("L5", "class C:\n    x = 1\n"),
            ("L6", "def f():\n    assert True\n"),
            ("L6", "def f():\n    a = b = 1\n"),
            ("L7", "def f():\n    return 1.5\n"),
            ("L7", "def f(xs):\n    return {x for x in xs}\n"),
            ("L8", "def f(x):\n    return hash(x)\n"),
            ("L10", "x = 1" + " " * 120 + "\n"),
            ("L12", "_x = 1\n"),
            ("L14", "x = '\u00e9'\n"),
            ("L15", "def f(map):\n    return map\n"),
            ("L17", "x = 1  # the type of it\n"),
            ("L20", "def f(a, b):\n    return a is b\n"),
            ("L25", "def f(xs):\n    xs.sort()\n"),
            ("L27", "def f(n):\n    return 2 ** n\n"),
        ]:
            with self.subTest(text=text):
                self.assertTrue(any(fault.split()[0] == row or row in fault for fault in faults_of(text, [])))

    def test_faults_over_several_lines_are_seen(self):
        method = "class C:\n    def %s(self):\n        self.%s = 1\n"
        self.assertEqual(object_faults([ast.parse(method % ("do", "done"))]), [])
        self.assertEqual(object_faults([ast.parse(method % ("do", "do"))]), ["L18 do"])
        self.assertEqual(object_faults([ast.parse(method % ("do", "items"))]), ["L26 items"])
        self.assertEqual(object_faults([ast.parse(method % ("union", "done"))]), ["L26 union"])
        self.assertEqual(walk_faults(ast.parse("xs = list(reversed(ys))\nfor x in zip(xs, ys):\n    pass\n")), [])
        self.assertEqual(walk_faults(ast.parse("xs = reversed(ys)\n")), ["L23 reversed"])
        self.assertEqual(walk_faults(ast.parse("for x in reversed(range(3)):\n    pass\n")), ["L23 range"])
        self.assertEqual(walk_faults(ast.parse("xs = d.values()\n")), ["L23 values"])
        self.assertEqual(shadow_faults(ast.parse("from a.b import c\ndef f(c):\n    return c\n")), ["L15 c"])
        circle = {"a.b": ast.parse("from a.c import x\n"), "a.c": ast.parse("from a.b import y\n")}
        self.assertEqual(circle_faults(circle), ["L16 a.b", "L16 a.c"])


if __name__ == "__main__":
    unittest.main()
