"""The form of the package's files, so far as it is easily seen; the whole of it is told in LANGUAGE.md."""

import ast
import builtins
import os
import re
import unittest

TOP = os.path.dirname(os.path.dirname(os.path.abspath(__file__)))
PACKAGE = os.path.join(TOP, "genomereads")

NODES = """Module FunctionDef ClassDef arguments arg Assign AugAssign If While For Return Break Continue Pass Raise
Try ExceptHandler Expr ImportFrom alias Constant List Tuple Dict Set BinOp BoolOp UnaryOp Compare IfExp Call keyword
Attribute Subscript Slice ListComp comprehension JoinedStr FormattedValue Lambda Name Load Store Add Sub Mult FloorDiv
Mod Pow BitAnd BitOr BitXor LShift RShift Invert USub UAdd Not And Or Eq NotEq Lt LtE Gt GtE In NotIn Is IsNot""".split()

OWN_METHODS = """append clear copy count endswith extend find get index insert isalnum isalpha isdigit islower isspace
isupper items join keys ljust lower lstrip partition pop remove replace reverse rfind rjust rpartition rsplit rstrip
setdefault split splitlines startswith strip update upper values zfill bit_length""".split()

BUILT_IN = """len range enumerate zip min max sum abs sorted reversed int str bool list tuple dict set frozenset
isinstance ord repr any all divmod Exception ValueError TypeError KeyError IndexError LookupError ZeroDivisionError
ArithmeticError OverflowError RuntimeError NotImplementedError AttributeError StopIteration""".split()

WORDS = """type typing typing_extensions enum Enum IntEnum StrEnum Flag IntFlag Generic Protocol ABC ABCMeta namedtuple
NamedTuple TypedDict TYPE_CHECKING abstractmethod""".split()


def package_files():
    for folder, folders, files in os.walk(PACKAGE):
        if "__pycache__" in folders:
            folders.remove("__pycache__")
        for name in sorted(files):
            yield os.path.join(folder, name)


def bound_names(tree):
    """Names that the file binds; a name of Python's own among them is a fault too."""
    names = set()
    for node in ast.walk(tree):
        if isinstance(node, (ast.FunctionDef, ast.ClassDef)):
            names.add(node.name)
        elif isinstance(node, ast.arg):
            names.add(node.arg)
        elif isinstance(node, ast.alias):
            names.add(node.asname or node.name)
        elif isinstance(node, ast.Name) and isinstance(node.ctx, ast.Store):
            names.add(node.id)
    return names


def top_names(tree):
    """Names that the file's top defines itself, imported ones not among them."""
    names = []
    for node in tree.body:
        if isinstance(node, (ast.FunctionDef, ast.ClassDef)):
            names.append(node.name)
        elif isinstance(node, ast.Assign):
            names += [target.id for target in node.targets]
    return names


def drawn_from(tree):
    return [node for node in tree.body if isinstance(node, ast.ImportFrom)]


def hidden_names(tree):
    """Parameters and locals that are called like an import or a class of the file."""
    taken = {alias.name for node in drawn_from(tree) for alias in node.names}
    taken |= {node.name for node in tree.body if isinstance(node, ast.ClassDef)}
    for node in ast.walk(tree):
        if isinstance(node, ast.arg) and node.arg in taken:
            yield node.arg
        elif isinstance(node, ast.Name) and isinstance(node.ctx, ast.Store) and node.id in taken:
            yield node.id


def methods_of(tree):
    return [
        part.name for node in tree.body if isinstance(node, ast.ClassDef)
        for part in node.body if isinstance(part, ast.FunctionDef)
    ]


def values_of(tree):
    """Values that objects are given."""
    return [node.attr for node in ast.walk(tree) if isinstance(node, ast.Attribute) and isinstance(node.ctx, ast.Store)]


def package_trees():
    trees = {}
    for path in package_files():
        with open(path, encoding="utf-8") as file:
            trees["genomereads." + os.path.basename(path)[:-3]] = ast.parse(file.read())
    return trees


def node_faults(node, bound, methods):
    kind = node.__class__.__name__
    if kind not in NODES:
        yield "L6, L7: " + kind
    if isinstance(node, ast.Constant) and not isinstance(node.value, (int, str, type(None))):
        yield "L7: a value of another kind"
    if isinstance(node, ast.ImportFrom) and (node.level or node.module.split(".")[0] not in ("genomereads", "__future__")):
        yield "L2: import"
    if isinstance(node, ast.FunctionDef) and node.end_lineno - node.lineno + 1 > 40:
        yield "L10: a function of more than 40 lines"
    if isinstance(node, ast.Assign) and len(node.targets) > 1:
        yield "L6: more than one target"
    if isinstance(node, ast.BinOp) and isinstance(node.op, ast.Pow):
        if not (isinstance(node.right, ast.Constant) and 0 <= node.right.value <= 64):
            yield "L27: an exponent that is not written"
    if isinstance(node, ast.Compare) and any(isinstance(op, (ast.Is, ast.IsNot)) for op in node.ops):
        if not all(isinstance(side, ast.Constant) for side in node.comparators):
            yield "L20: is"
    if isinstance(node, ast.Name) and node.id not in bound and node.id not in BUILT_IN:
        yield "L8: " + node.id
    if isinstance(node, ast.Call) and isinstance(node.func, ast.Attribute):
        if node.func.attr not in methods and node.func.attr not in OWN_METHODS:
            yield "L25: " + node.func.attr


def faults(text, methods=()):
    found = []
    lines = text.split("\n")
    if len(lines) > 401 or any(len(line) > 120 for line in lines):
        found.append("L10: size")
    if not re.fullmatch(r"[ -~\n]*", text):
        found.append("L14: signs")
    words = re.findall(r"\w+", text)
    found += ["L17: " + word for word in words if word in WORDS]
    found += ["L17: " + word for word in words if re.search("dataclass|overload|contextmanager", word)]
    tree = ast.parse(text)
    bound = bound_names(tree)
    found += ["L12: " + name for name in bound if name.startswith("_") and not name.endswith("__")]
    found += ["L15: " + name for name in bound if name in dir(builtins) or name in BUILT_IN]
    found += ["L15: " + name for name in hidden_names(tree)]
    found += ["L15: twice at the top" for name in top_names(tree) if top_names(tree).count(name) > 1]
    for node in ast.walk(tree):
        found += [f"{fault}, line {getattr(node, 'lineno', 0)}" for fault in node_faults(node, bound, methods)]
    return found


class Language(unittest.TestCase):
    def test_package_files(self):
        names = [os.path.relpath(path, PACKAGE) for path in package_files()]
        self.assertIn("__init__.py", names)
        self.assertIn("bench.py", names)
        for name in names:
            self.assertRegex(name, r"^([a-z0-9_]+/)*[a-z0-9_]+\.py$")

    def test_form(self):
        methods = [name for tree in package_trees().values() for name in methods_of(tree)]
        for path in package_files():
            with open(path, encoding="utf-8") as file:
                with self.subTest(path=path):
                    self.assertEqual(faults(file.read(), methods), [])

    def test_imports(self):
        trees = package_trees()
        drawn = {}
        for name, tree in trees.items():
            drawn[name] = {node.module for node in drawn_from(tree)}
            for node in drawn_from(tree):
                for alias in node.names:
                    self.assertIn(alias.name, top_names(trees[node.module]), "L16: from the file that defines it")
        while drawn:
            ends = [name for name in drawn if not drawn[name] & set(drawn)]
            self.assertNotEqual(ends, [], "L16: files draw from one another")
            drawn = {name: names for name, names in drawn.items() if name not in ends}

    def test_methods_and_values(self):
        methods = [name for tree in package_trees().values() for name in methods_of(tree)]
        values = [name for tree in package_trees().values() for name in values_of(tree)]
        self.assertEqual([name for name in methods if name in values], [], "L18")
        others = dir(str) + dir(int) + dir(list) + dir(dict) + dir(set) + dir(bytes) + dir(tuple)
        self.assertEqual([name for name in methods + values if name in others and name != "__init__"], [], "L26")

    def test_faults_are_seen(self):
        for text in (
            "import os\n", "from os import path\n", "x = 1 / 2\n", "x = 0.5\n", "x = y = 1\n", "x = open\n",
            "def f(x):\n    yield x\n", "def f(x):\n    assert x\n", "def f(x):\n    x.sort()\n", "# a type\n",
            "def f(x):\n    return {a for a in x}\n", "def f(x):\n    del x\n", "def f(_x):\n    return 1\n",
            "def f(id):\n    return id\n", "# \u00e9\n", "#" * 121 + "\n", "\n" * 401,
            "def f():\n" + "    pass\n" * 40, "def f(n):\n    return 2 ** n\n", "def f(x):\n    return x is x\n",
            "from genomereads.bench import a\n\n\ndef f(a):\n    return a\n", "X = 1\nX = 2\n",
        ):
            with self.subTest(text=text[:40]):
                self.assertNotEqual(faults(text), [])


if __name__ == "__main__":
    unittest.main()
