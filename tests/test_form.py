"""The form of the package's files: the rules of LANGUAGE.md that can be read off a file, and that they are."""

import ast
import builtins
import keyword
import pathlib
import re
import unittest

PACKAGE = pathlib.Path(__file__).resolve().parent.parent / "beaconcoasts"
FILE_NAME = re.compile(r"(?:[a-z][a-z0-9_]*|__init__|__main__)\.py\Z")
NAME = re.compile(r"[A-Za-z][A-Za-z0-9_]*\Z")
DOUBLE = {"__init__", "__eq__", "__repr__", "__str__", "__len__"}
ALLOWED = set("""len range enumerate zip min max sum abs sorted reversed int str bool list tuple dict set frozenset
    isinstance ord repr any all divmod Exception ValueError TypeError KeyError IndexError LookupError ZeroDivisionError
    ArithmeticError OverflowError RuntimeError NotImplementedError AttributeError StopIteration object""".split())
METHODS = set("""append clear copy count endswith extend find get index insert isalnum isalpha isdigit islower isspace
    isupper items join keys ljust lower lstrip partition pop remove replace reverse rfind rjust rpartition rsplit rstrip
    setdefault split splitlines startswith strip update upper values zfill bit_length""".split())
CHANGES = set("append clear extend insert pop remove reverse setdefault update".split())
UNUSED = set("""register mro elements open input version_info with_traceback add_note attrgetter breakpoint builtins
    compile copyright credits delattr dir eval exec exit gc getattr globals hasattr help id importlib license locals
    methodcaller os quit setattr super type vars sys""".split())
WORDS = re.compile(r"\b(?:type|typing|typing_extensions|enum|Enum|IntEnum|StrEnum|Flag|IntFlag|Generic|Protocol|ABC|"
                   r"ABCMeta|namedtuple|NamedTuple|TypedDict|TYPE_CHECKING|abstractmethod)\b|"
                   r"dataclass|overload|contextmanager")
STATEMENTS = (ast.Module, ast.ImportFrom, ast.FunctionDef, ast.ClassDef, ast.Assign, ast.AugAssign, ast.If, ast.While,
              ast.For, ast.Return, ast.Break, ast.Continue, ast.Pass, ast.Raise, ast.Try, ast.Expr)
VALUES = (ast.BinOp, ast.UnaryOp, ast.BoolOp, ast.Compare, ast.IfExp, ast.Call, ast.Attribute, ast.Subscript, ast.Slice,
          ast.Constant, ast.Name, ast.List, ast.Tuple, ast.Dict, ast.Set, ast.ListComp, ast.JoinedStr,
          ast.FormattedValue, ast.Lambda)
PLAIN = (int, str, bool, type(None))
ESCAPE = re.compile(r"(?<!\\)(?:\\\\)*\\[^nt\\'\"]")
KEYWORDS = {"sorted": {"key", "reverse"}, "min": {"key", "default"}, "max": {"key", "default"}, "sum": {"start"},
            "enumerate": {"start"}, "zip": {"strict"}}
KEYS = set("len int str abs sum min max tuple".split())
WALKED = {"zip", "enumerate", "reversed", "range"}
VIEWS = {"items", "keys", "values"}
WALKERS = set("list tuple dict sorted sum any all enumerate zip min max".split())
READERS = set("len list tuple dict sorted sum min max any all enumerate zip reversed".split())
NEVER_TAKEN = set("""Exception TypeError ArithmeticError OverflowError RuntimeError NotImplementedError
    AttributeError""".split())


class Form:
    """The faults of one file, each a rule and a line."""

    def __init__(self, source, own_methods=(), classes=(), tables=()):
        self.tree = ast.parse(source)
        self.parents = {inner: node for node in ast.walk(self.tree) for inner in ast.iter_child_nodes(node)}
        self.source = source
        self.own_methods = set(own_methods)
        self.found = []
        self.imported = {alias.name for node in self.tree.body if isinstance(node, ast.ImportFrom)
                         for alias in node.names}
        self.classes = {node.name for node in self.tree.body if isinstance(node, ast.ClassDef)}
        self.package_classes = self.classes | set(classes)
        self.tables = tables_of(self.tree) | set(tables)

    def fault(self, rule, node):
        self.found.append((rule, getattr(node, "lineno", node if isinstance(node, int) else 0)))

    def faults(self):
        self.check_text()
        self.check_top()
        for node in ast.walk(self.tree):
            if isinstance(node, ast.stmt) and not isinstance(node, STATEMENTS):
                self.fault("L6", node)
            if isinstance(node, ast.expr) and not isinstance(node, VALUES):
                self.fault("L7", node)
            getattr(self, "check_" + node.__class__.__name__, lambda node: None)(node)
        return self.found

    def check_text(self):
        rows = self.source.split("\n")
        if len(rows) > 400:
            self.fault("L10", len(rows))
        for number, row in enumerate(rows, 1):
            if len(row) > 120:
                self.fault("L10", number)
            if any(not " " <= sign <= "~" for sign in row):
                self.fault("L14", number)
            if WORDS.search(row):
                self.fault("L17", number)
            if ESCAPE.search(row):
                self.fault("L27", number)

    def check_top(self):
        if ast.get_docstring(self.tree) is None:
            self.fault("L3", 1)
        bound = sorted(self.imported)
        for node in self.tree.body[1:]:
            if isinstance(node, (ast.FunctionDef, ast.ClassDef)):
                bound.append(node.name)
            elif isinstance(node, ast.Assign) and isinstance(node.targets[0], ast.Name):
                bound.append(node.targets[0].id)
                self.check_top_value(node.value)
            elif not isinstance(node, ast.ImportFrom):
                self.fault("L3", node)
        if len(bound) != len(set(bound)):
            self.fault("L15", 1)

    def check_top_value(self, value):
        inner = ast.walk(value)
        next(inner)
        if any(isinstance(node, (ast.List, ast.Dict)) for node in inner):
            self.fault("L15", value)
        plain = (ast.Constant, ast.UnaryOp, ast.USub, ast.List, ast.Tuple, ast.Dict, ast.Name, ast.Load)
        if any(not isinstance(node, plain) for node in ast.walk(value)):
            self.fault("L3", value)

    def check_name(self, name, node):
        if not NAME.match(name) or keyword.issoftkeyword(name):
            self.fault("L12", node)
        if name in UNUSED:
            self.fault("L17", node)

    def check_Import(self, node):
        self.fault("L2", node)

    def check_ImportFrom(self, node):
        if node not in self.tree.body or node.level != 0 or not (node.module or "").startswith("beaconcoasts."):
            self.fault("L2", node)
        if any(alias.name == "*" or alias.asname for alias in node.names):
            self.fault("L16", node)

    def check_FunctionDef(self, node):
        if node.name not in DOUBLE:
            self.check_name(node.name, node)
        if node.end_lineno - node.lineno >= 40:
            self.fault("L10", node)
        if node.decorator_list:
            self.fault("L4", node)
        if node.returns:
            self.fault("L21", node)
        self.check_returns(node)

    def check_returns(self, node):
        if node.name == "__init__" and any(isinstance(inner, ast.Return) and inner.value for inner in ast.walk(node)):
            self.fault("L28", node)

    def check_arguments(self, node):
        if node.vararg or node.kwarg or node.kwonlyargs or node.posonlyargs:
            self.fault("L4", node)
        if any(not isinstance(value, ast.Constant) for value in node.defaults):
            self.fault("L4", node)

    def check_arg(self, node):
        self.check_bound(node.arg, node)
        if node.annotation:
            self.fault("L21", node)

    def check_bound(self, name, node):
        self.check_name(name, node)
        if hasattr(builtins, name) or name in self.classes or name in self.imported:
            self.fault("L15", node)

    def check_ClassDef(self, node):
        self.check_name(node.name, node)
        if node not in self.tree.body:
            self.fault("L15", node)
        if node.decorator_list or node.keywords or len(node.bases) > 1:
            self.fault("L5", node)
        methods = [inner.name for inner in node.body if isinstance(inner, ast.FunctionDef)]
        if len(methods) != len(set(methods)):
            self.fault("L18", node)
        for inner in node.body:
            text = isinstance(inner, ast.Expr) and isinstance(inner.value, ast.Constant)
            if not text and not isinstance(inner, (ast.FunctionDef, ast.Pass)):
                self.fault("L5", inner)

    def check_Assign(self, node):
        if len(node.targets) != 1:
            self.fault("L6", node)

    def check_Expr(self, node):
        if not isinstance(node.value, (ast.Call, ast.Constant)):
            self.fault("L6", node)

    def check_For(self, node):
        if node.orelse:
            self.fault("L6", node)
        walked = ast.unparse(node.iter)
        for inner in ast.walk(node):
            if isinstance(inner, ast.Call) and isinstance(inner.func, ast.Attribute) and inner.func.attr in CHANGES \
                    and ast.unparse(inner.func.value) in (walked, *[ast.unparse(row) for row in ast.walk(node.iter)
                                                                    if isinstance(row, ast.Name)]):
                self.fault("L23", inner)

    def check_While(self, node):
        if node.orelse:
            self.fault("L6", node)

    def check_Try(self, node):
        if node.finalbody or any(handler.type is None for handler in node.handlers):
            self.fault("L6", node)

    def check_ExceptHandler(self, node):
        if any(isinstance(inner, ast.Name) and inner.id in NEVER_TAKEN for inner in ast.walk(node.type or ast.Pass())):
            self.fault("L19", node)

    def is_called(self, node):
        parent = self.parents[node]
        return isinstance(parent, ast.Call) and parent.func is node

    def is_given_to(self, node, names):
        """If it's the first thing that one of these functions is called with."""
        parent = self.parents[node]
        return isinstance(parent, ast.Call) and isinstance(parent.func, ast.Name) and parent.func.id in names \
            and parent.args[:1] == [node]

    def is_walked(self, node):
        parent = self.parents[node]
        return isinstance(parent, (ast.For, ast.comprehension)) and parent.iter is node

    def is_class_place(self, node):
        """If a class may stand there: behind except or raise, as a base, by isinstance."""
        parent = self.parents[node]
        if isinstance(parent, ast.Tuple):
            parent = self.parents[parent]
        by_isinstance = isinstance(parent, ast.Call) and ast.unparse(parent.func) == "isinstance"
        return isinstance(parent, (ast.ExceptHandler, ast.Raise, ast.ClassDef)) or by_isinstance

    def check_use(self, node):
        """Of a name that is read: classes, tables and Python's own names stand just where they may."""
        parent = self.parents[node]
        if node.id in self.package_classes and not self.is_called(node) and not self.is_class_place(node):
            self.fault("L18", node)
        as_key = isinstance(parent, ast.keyword) and parent.arg == "key" and node.id in KEYS
        if node.id in ALLOWED and not self.is_called(node) and not self.is_class_place(node) and not as_key:
            self.fault("L22", node)
        indexed = isinstance(parent, ast.Subscript) and parent.value is node and isinstance(parent.ctx, ast.Load)
        asked = isinstance(parent, ast.Attribute) and parent.attr in ("get", "index", "count")
        if node.id in self.tables and not (indexed or asked or isinstance(parent, ast.Compare) or self.is_walked(node)
                                           or self.is_given_to(node, READERS)):
            self.fault("L15", node)

    def check_walk(self, node, name):
        """Of what is only to be walked on the spot."""
        parent = self.parents[node]
        joined = isinstance(parent, ast.Call) and isinstance(parent.func, ast.Attribute) and parent.func.attr == "join"
        alone = not self.is_given_to(node, ("min", "max")) or len(parent.args) == 1 and not parent.keywords
        if not (self.is_walked(node) or joined or self.is_given_to(node, WALKERS) and alone):
            self.fault("L23", node)

    def check_set(self, node):
        parent = self.parents[node]
        compared = isinstance(parent, (ast.Compare, ast.BinOp)) and self.parents.get(parent)
        if not compared and not (self.is_given_to(node, ("sorted", "len")) and not parent.keywords):
            self.fault("L24", node)

    def check_Set(self, node):
        parent = self.parents[node]
        if not isinstance(parent, ast.Compare) or not isinstance(parent.ops[0], (ast.In, ast.NotIn)):
            self.fault("L13", node)

    def check_Lambda(self, node):
        for other in ast.walk(self.tree):
            if isinstance(other, ast.Lambda) and other is not node and other.lineno == node.lineno \
                    and ast.unparse(other.args) == ast.unparse(node.args):
                self.fault("L13", node)

    def check_Name(self, node):
        if isinstance(node.ctx, ast.Store):
            self.check_bound(node.id, node)
        elif hasattr(builtins, node.id) and node.id not in ALLOWED:
            self.fault("L8", node)
        else:
            self.check_name(node.id, node)
            self.check_use(node)

    def check_Attribute(self, node):
        self.check_name(node.attr, node)
        if node.attr in ("format", "format_map", "mro"):
            self.fault("L8", node)

    def check_Call(self, node):
        if any(isinstance(row, ast.Starred) for row in node.args) or any(row.arg is None for row in node.keywords):
            self.fault("L7", node)
        name = node.func.attr if isinstance(node.func, ast.Attribute) else getattr(node.func, "id", "")
        if isinstance(node.func, ast.Attribute) and name not in METHODS | self.own_methods:
            self.fault("L25", node)
        if (name in ALLOWED | METHODS) and {row.arg for row in node.keywords} - KEYWORDS.get(name, set()):
            self.fault("L22", node)
        if name in (VIEWS if isinstance(node.func, ast.Attribute) else WALKED):
            self.check_walk(node, name)
        if name in ("set", "frozenset"):
            self.check_set(node)

    def check_Compare(self, node):
        for sign, right in zip(node.ops, node.comparators):
            if isinstance(sign, (ast.Is, ast.IsNot)) and ast.unparse(right) not in ("None", "True", "False"):
                self.fault("L20", node)

    def check_BinOp(self, node):
        if isinstance(node.op, (ast.Div, ast.MatMult)):
            self.fault("L7", node)
        if isinstance(node.op, ast.Pow) and not (isinstance(node.right, ast.Constant) and node.right.value in range(65)):
            self.fault("L27", node)

    def check_AugAssign(self, node):
        self.check_BinOp(ast.BinOp(node.target, node.op, node.value, lineno=node.lineno))

    def check_Constant(self, node):
        if not isinstance(node.value, PLAIN):
            self.fault("L7", node)
        if isinstance(node.value, str) and "%" in node.value:
            self.fault("L27", node)

    def check_ListComp(self, node):
        if len(node.generators) != 1 or len(node.generators[0].ifs) > 1:
            self.fault("L7", node)

    def check_FormattedValue(self, node):
        if not isinstance(node.value, ast.Name) or node.format_spec or node.conversion not in (-1, ord("r")):
            self.fault("L7", node)


def tables_of(tree):
    """The names of the lists, dicts and tuples of a file's top."""
    return {node.targets[0].id for node in tree.body if isinstance(node, ast.Assign)
            and isinstance(node.targets[0], ast.Name) and isinstance(node.value, (ast.List, ast.Dict, ast.Tuple))}


def sources():
    return {path.stem: path.read_text(encoding="utf-8") for path in sorted(PACKAGE.glob("*.py"))}


def top_names(tree):
    """The names that a file binds itself."""
    named = {node.name for node in tree.body if isinstance(node, (ast.FunctionDef, ast.ClassDef))}
    return named | {node.targets[0].id for node in tree.body if isinstance(node, ast.Assign)}


def class_members(trees):
    """The names of all methods, and those of all values, of the package's classes."""
    nodes = [node for tree in trees for node in ast.walk(tree)]
    methods = {row.name for node in nodes if isinstance(node, ast.ClassDef)
               for row in node.body if isinstance(row, ast.FunctionDef)}
    stored = {node.attr for node in nodes if isinstance(node, ast.Attribute) and isinstance(node.ctx, ast.Store)}
    return methods, stored


class Package(unittest.TestCase):
    def setUp(self):
        self.sources = sources()
        self.trees = {name: ast.parse(source) for name, source in self.sources.items()}
        self.methods, self.stored = class_members(self.trees.values())
        self.classes = {node.name for tree in self.trees.values() for node in tree.body
                        if isinstance(node, ast.ClassDef)}
        self.tables = {name for tree in self.trees.values() for name in tables_of(tree)}

    def test_nothing_but_plain_files(self):
        names = [path.name for path in PACKAGE.iterdir() if path.name != "__pycache__"]
        self.assertIn("__init__.py", names)
        for name in names:
            self.assertRegex(name, FILE_NAME)
            self.assertFalse(name.startswith(("test", "site", "conftest")), name)
            self.assertFalse(hasattr(builtins, name[:-3]) and not name.startswith("__"), name)

    def test_each_file(self):
        for name, source in self.sources.items():
            self.assertEqual(Form(source, self.methods, self.classes, self.tables).faults(), [], name)

    def test_methods_and_values_have_names_of_their_own(self):
        self.assertEqual(self.methods & self.stored, set())
        pythons = {name for kind in (str, int, list, dict, set, bytes, tuple) for name in dir(kind)}
        self.assertEqual((self.methods - DOUBLE) & pythons, set())
        self.assertEqual(self.stored & pythons, set())

    def test_names_are_drawn_from_where_they_are_defined(self):
        for name, tree in self.trees.items():
            for node in tree.body:
                if isinstance(node, ast.ImportFrom):
                    drawn = {alias.name for alias in node.names}
                    self.assertLessEqual(drawn, top_names(self.trees[node.module.split(".")[1]]), name)

    def test_the_package_itself_binds_no_files_name(self):
        self.assertEqual(top_names(self.trees["__init__"]) & set(self.trees), set())
        self.assertEqual([node for node in self.trees["__init__"].body if isinstance(node, ast.ImportFrom)], [])

    def test_no_two_files_draw_from_one_another(self):
        draws = {name: {node.module.split(".")[1] for node in tree.body if isinstance(node, ast.ImportFrom)}
                 for name, tree in self.trees.items()}
        while draws:
            free = [name for name, others in draws.items() if not others & set(draws)]
            self.assertNotEqual(free, [], draws)
            draws = {name: others for name, others in draws.items() if name not in free}

    def test_the_interface_is_written_in_its_file(self):
        for name, tree in self.trees.items():
            self.assertEqual("answers" in top_names(tree), name == "chart")
        answers = [node for node in self.trees["chart"].body if getattr(node, "name", "") == "answers"][0]
        self.assertEqual(ast.unparse(answers.args), "calls")


class Checker(unittest.TestCase):
    """That the checker finds what it is for."""

    def test_what_is_in_form(self):
        source = '"""A file."""\n\nMOST = (1, -2)\n\n\ndef first(rows):\n    """The first."""\n    return rows[0]\n'
        self.assertEqual(Form(source).faults(), [])
        for row in ("def f(a):\n    return sorted(a, key=lambda b: b)", "def f(a):\n    return max(a, key=len)",
                    "X = (1, 2)\n\n\ndef f(a):\n    return X[a]", "X = [1]\n\n\ndef f(a):\n    return a in X",
                    "X = [1]\n\n\ndef f():\n    return list(X)", "def f():\n    return '\\n\\\\r\\''",
                    "def f(a):\n    return [b for b, c in zip(a, a)]", "def f(a):\n    return list(range(a))",
                    "def f(a):\n    return len(set(a))", "def f(a):\n    return a in (1, 2)",
                    "class A(ValueError):\n    pass\n\n\ndef f(a):\n    raise A()"):
            self.assertEqual(Form('"""A file."""\n' + row).faults(), [], row)

    def test_what_is_not(self):
        for rule, row in (("L2", "import os"), ("L2", "from os import path"), ("L16", "from beaconcoasts.a import *"),
                          ("L3", "print(1)"), ("L15", "xs = [[1]]"), ("L15", "x = 1\nx = 2"), ("L4", "def f(*a): pass"),
                          ("L4", "def f(a, b=-1): pass"), ("L5", "class A:\n    x = 1"), ("L6", "del x"),
                          ("L6", "def f():\n    assert 1"), ("L6", "def f(a):\n    b = c = a"), ("L7", "x = 1.5"),
                          ("L7", "def f(a):\n    return {b for b in a}"), ("L7", "def f(a, b):\n    return a / b"),
                          ("L7", "def f(a):\n    return [*a]"), ("L8", "def f(a):\n    return map(a)"),
                          ("L8", "def f(a):\n    return chr(a)"), ("L12", "def _f(): pass"), ("L15", "def f(range): pass"),
                          ("L17", "def f(a):\n    return a.mro"), ("L17", "# this type"), ("L20", "def f(a):\n    a is 1"),
                          ("L25", "def f(a):\n    a.sort()"), ("L27", "def f(a):\n    return 2 ** a"), ("L27", "x = '%'"),
                          ("L23", "def f(a):\n    for b in a:\n        a.append(b)"), ("L10", "x = 1" + " " * 120),
                          ("L10", "def f(a):\n" + "    a = 1\n" * 40), ("L14", "# \xe4"), ("L14", "def f(a):\n\treturn a"),
                          ("L13", "def f():\n    return {1, 2, 3}"), ("L15", "X = [1]\ndef f(): return X"),
                          ("L13", "def f(a):\n    return g(lambda b: b, lambda b: 1)"),
                          ("L15", "X = [1]\ndef f(): X.append(1)"), ("L15", "X = [1]\ndef f():\n    X[0] = 1"),
                          ("L15", "X = [1]\ndef f(): g(X)"),
                          ("L18", "class A:\n    pass\ndef f(): return A"), ("L21", "def f() -> int: pass"),
                          ("L18", "class A:\n    def b(self): pass\n    def b(self): pass"),
                          ("L19", "def f():\n    try:\n        pass\n    except Exception:\n        pass"),
                          ("L22", "def f(a):\n    return int(x=a)"), ("L22", "def f(a):\n    return [len, a]"),
                          ("L23", "def f(a):\n    b = range(a)"), ("L23", "def f(a):\n    return a.items()"),
                          ("L23", "def f(a):\n    return min(range(a), key=len)"), ("L24", "def f(a):\n    b = set(a)"),
                          ("L27", "x = '\\r'"), ("L28", "class A:\n    def __init__(self):\n        return None")):
            self.assertIn(rule, [found for found, line in Form('"""A file."""\n' + row).faults()], row)


if __name__ == "__main__":
    unittest.main()
