"""What can be seen by a walk over the package's files of the rules L1 to L28 that the program keeps to.

Each check gives pairs (rule, line); a file that keeps to the rules gives none.
"""

import ast
import builtins
import pathlib
import re
import unittest

import plainglass

FOLDER = pathlib.Path(plainglass.__file__).parent

CALLED = set("len range enumerate zip min max sum abs sorted reversed int str bool list tuple dict set frozenset "
             "isinstance ord repr any all divmod".split())
ERRORS = set("Exception ValueError TypeError KeyError IndexError LookupError ZeroDivisionError ArithmeticError "
             "OverflowError RuntimeError NotImplementedError AttributeError StopIteration".split())
METHODS = set("append clear copy count endswith extend find get index insert isalnum isalpha isdigit islower isspace "
              "isupper items join keys ljust lower lstrip partition pop remove replace reverse rfind rjust rpartition "
              "rsplit rstrip setdefault split splitlines startswith strip update upper values zfill bit_length".split())
DUNDERS = set("__init__ __eq__ __repr__ __str__ __len__".split())
BANNED_FILES = set("test tests testing site conftest sitecustomize usercustomize".split()) | set(dir(builtins))
BANNED_NAMES = set("register mro elements open input version_info with_traceback add_note".split())
BANNED_WORDS = re.compile(r"\b(type|typing|typing_extensions|enum|Enum|IntEnum|StrEnum|Flag|IntFlag|Generic|Protocol|ABC"
                          r"|ABCMeta|namedtuple|NamedTuple|TypedDict|TYPE_CHECKING|abstractmethod)\b"
                          r"|dataclass|overload|contextmanager")
BANNED_VALUES = set("items keys values pop update append clear extend insert remove reverse setdefault sort args encode "
                    "format".split())

# What is walked at once, and the calls that walk it.
WALKED = set("zip enumerate reversed range items keys values".split())
WALKERS = set("list tuple dict sorted sum any all enumerate zip min max".split())
PLAIN_EXCEPT = set("KeyError ZeroDivisionError StopIteration".split())
KEYWORDS = {"sorted": {"key", "reverse"}, "min": {"key", "default"}, "max": {"key", "default"}, "sum": {"start"}, "enumerate": {"start"},
            "zip": {"strict"}}

NODES = (
    ast.Module, ast.FunctionDef, ast.ClassDef, ast.ImportFrom, ast.alias, ast.arguments, ast.arg, ast.Lambda,
    ast.Assign, ast.AugAssign, ast.If, ast.While, ast.For, ast.Return, ast.Break, ast.Continue, ast.Pass, ast.Raise,
    ast.Try, ast.ExceptHandler, ast.Expr, ast.Call, ast.keyword, ast.Name, ast.Attribute, ast.Subscript, ast.Slice,
    ast.Constant, ast.List, ast.Tuple, ast.Dict, ast.Set, ast.ListComp, ast.comprehension, ast.JoinedStr,
    ast.FormattedValue, ast.BinOp, ast.UnaryOp, ast.BoolOp, ast.Compare, ast.IfExp, ast.operator, ast.unaryop,
    ast.boolop, ast.cmpop, ast.expr_context,
)


def paths():
    return sorted(path for path in FOLDER.iterdir() if path.name != "__pycache__")


def check_text(text):
    for number, line in enumerate(text.split("\n"), start=1):
        if len(line) > 120 or "\t" in line:
            yield "L10", number
        if re.search(r"[^ -~\t]", line):
            yield "L14", number
        if BANNED_WORDS.search(line):
            yield "L17", number
    if text.count("\n") > 400:
        yield "L10", 400


def check_top(tree):
    bound = []
    for place, node in enumerate(tree.body):
        if isinstance(node, ast.Expr) and place == 0 and isinstance(node.value, ast.Constant):
            continue
        if isinstance(node, ast.ImportFrom):
            if node.level or node.module.split(".")[0] != "plainglass" or node.module.endswith("__main__"):
                yield "L2", node.lineno
            bound += [alias.asname or alias.name for alias in node.names]
        elif isinstance(node, (ast.FunctionDef, ast.ClassDef)):
            bound.append(node.name)
        elif isinstance(node, ast.Assign):
            bound += [target.id for target in node.targets if isinstance(target, ast.Name)]
            if any(isinstance(inner, (ast.Call, ast.BinOp, ast.ListComp, ast.Set)) for inner in ast.walk(node.value)):
                yield "L3", node.lineno
        else:
            yield "L3", node.lineno
    for name in bound:
        if bound.count(name) > 1 or name == "*":
            yield "L15", 1


def check_nodes(tree):
    for node in ast.walk(tree):
        line = getattr(node, "lineno", 1)
        if not isinstance(node, NODES):
            yield "L6", line
        if isinstance(node, ast.Assign) and len(node.targets) != 1:
            yield "L6", line
        if isinstance(node, (ast.For, ast.While)) and node.orelse:
            yield "L6", line
        if isinstance(node, ast.Expr) and not isinstance(node.value, ast.Call) and node is not tree.body[0]:
            yield "L6", line
        if isinstance(node, ast.Try) and node.finalbody:
            yield "L6", line
        if isinstance(node, ast.Constant) and isinstance(node.value, (float, bytes, complex)):
            yield "L7", line
        if isinstance(node, (ast.Div, ast.MatMult)):
            yield "L7", line
        if isinstance(node, ast.ListComp) and (len(node.generators) != 1 or len(node.generators[0].ifs) > 1):
            yield "L7", line
        if isinstance(node, ast.Constant) and isinstance(node.value, str) and "%" in node.value:
            yield "L27", line
        if isinstance(node, ast.Pow):
            yield "L27", line
        if isinstance(node, ast.Compare) and any(isinstance(op, (ast.Is, ast.IsNot)) for op in node.ops):
            if not all(isinstance(side, ast.Constant) and side.value in (None, True, False) for side in node.comparators):
                yield "L20", line


def check_defs(tree):
    for node in ast.walk(tree):
        if isinstance(node, (ast.FunctionDef, ast.ClassDef)) and node.decorator_list:
            yield "L4", node.lineno
        if isinstance(node, (ast.FunctionDef, ast.Lambda)):
            given = node.args
            if given.vararg or given.kwarg or given.kwonlyargs or given.posonlyargs:
                yield "L4", node.lineno
        if isinstance(node, ast.FunctionDef) and node.end_lineno - node.lineno >= 40:
            yield "L10", node.lineno
        if isinstance(node, ast.ClassDef):
            names = [inner.name for inner in node.body if isinstance(inner, ast.FunctionDef)]
            if len(node.bases) > 1 or node.keywords or len(names) != len(set(names)):
                yield "L5", node.lineno
            if not all(isinstance(inner, (ast.FunctionDef, ast.Pass)) for inner in node.body):
                yield "L5", node.lineno


def bound_names(tree):
    for node in ast.walk(tree):
        if isinstance(node, (ast.FunctionDef, ast.ClassDef)):
            yield node.name, node.lineno
        if isinstance(node, ast.arg):
            yield node.arg, node.lineno
        if isinstance(node, ast.Name) and isinstance(node.ctx, ast.Store):
            yield node.id, node.lineno
        if isinstance(node, ast.ExceptHandler) and node.name:
            yield node.name, node.lineno


def check_names(tree):
    known = {name for name, line in bound_names(tree)}
    drawn = [alias.name for node in tree.body if isinstance(node, ast.ImportFrom) for alias in node.names]
    classes = [node.name for node in tree.body if isinstance(node, ast.ClassDef)]
    for name, line in bound_names(tree):
        if not re.fullmatch(r"[A-Za-z][A-Za-z0-9_]*", name) and name not in DUNDERS:
            yield "L12", line
        if name in dir(builtins) or name in drawn:
            yield "L15", line
        if name in BANNED_NAMES:
            yield "L17", line
    for node in ast.walk(tree):
        if isinstance(node, ast.arg) and node.arg in classes:
            yield "L15", node.lineno
        if isinstance(node, ast.Name) and isinstance(node.ctx, ast.Store) and node.id in classes:
            yield "L15", node.lineno
        if isinstance(node, ast.Name) and isinstance(node.ctx, ast.Load):
            if node.id not in known and node.id not in drawn and node.id not in CALLED | ERRORS:
                yield "L8", node.lineno


def check_methods(tree, methods):
    for node in ast.walk(tree):
        if isinstance(node, ast.Attribute) and isinstance(node.ctx, ast.Store):
            if node.attr in BANNED_VALUES or node.attr in methods:
                yield "L26", node.lineno
        if isinstance(node, ast.Attribute) and node.attr in BANNED_NAMES:
            yield "L17", node.lineno
        if isinstance(node, ast.Call) and isinstance(node.func, ast.Attribute):
            if node.func.attr not in METHODS | methods | {"__init__"}:
                yield "L25", node.lineno


def called(node):
    if not isinstance(node, ast.Call):
        return None
    return node.func.id if isinstance(node.func, ast.Name) else getattr(node.func, "attr", None)


# Each node with the one right round it.
def pairs(tree):
    for around in ast.walk(tree):
        for node in ast.iter_child_nodes(around):
            yield around, node


def check_walked(tree):
    for around, node in pairs(tree):
        if called(node) in WALKED:
            looped = isinstance(around, (ast.For, ast.comprehension)) and around.iter is node
            handed = called(around) in WALKERS and isinstance(around.func, ast.Name) and around.args[0] is node
            if not looped and not handed:
                yield "L23", node.lineno
        if called(node) in ("set", "frozenset") or isinstance(node, ast.Set):
            if called(around) not in ("sorted", "len") and not isinstance(around, (ast.Compare, ast.BinOp)):
                yield "L24", node.lineno
        if isinstance(node, ast.Name) and node.id in CALLED - {"int", "str", "bool", "list", "tuple", "dict"}:
            if not (isinstance(around, ast.Call) and around.func is node):
                yield "L22", node.lineno


def check_calls(tree):
    for node in ast.walk(tree):
        if isinstance(node, ast.Call) and isinstance(node.func, ast.Name) and node.func.id in CALLED:
            if {keyword.arg for keyword in node.keywords} - KEYWORDS.get(node.func.id, set()):
                yield "L22", node.lineno
        if isinstance(node, (ast.Assign, ast.AugAssign)):
            target = node.target if isinstance(node, ast.AugAssign) else node.targets[0]
            if isinstance(target, (ast.Tuple, ast.List)):
                yield "L6", node.lineno
        if isinstance(node, ast.ExceptHandler):
            if not isinstance(node.type, ast.Name) or node.type.id in ERRORS - PLAIN_EXCEPT:
                yield "L19", node.lineno
        if isinstance(node, ast.Raise) and not isinstance(node.exc, ast.Call):
            yield "L19", node.lineno


def own_methods(trees):
    return {inner.name for tree in trees for node in tree.body if isinstance(node, ast.ClassDef)
            for inner in node.body if isinstance(inner, ast.FunctionDef)}


def check(text, methods):
    tree = ast.parse(text)
    yield from check_text(text)
    yield from check_top(tree)
    yield from check_nodes(tree)
    yield from check_defs(tree)
    yield from check_names(tree)
    yield from check_methods(tree, methods)
    yield from check_walked(tree)
    yield from check_calls(tree)


class Package(unittest.TestCase):
    def test_files(self):
        for path in paths():
            self.assertTrue(path.is_file(), path.name)
            self.assertRegex(path.name, r"^(__init__|__main__|[a-z][a-z0-9_]*)\.py$")
            self.assertNotIn(path.stem, BANNED_FILES)
        self.assertIn("__init__.py", [path.name for path in paths()])

    def test_every_file_keeps_to_the_rules(self):
        texts = {path.name: path.read_bytes().decode("ascii") for path in paths()}
        methods = own_methods([ast.parse(text) for text in texts.values()])
        for name, text in texts.items():
            with self.subTest(file=name):
                self.assertEqual(list(check(text, methods)), [])

    def test_names_come_from_the_file_that_defines_them(self):
        trees = {path.stem: ast.parse(path.read_text()) for path in paths()}
        for tree in trees.values():
            for node in [node for node in tree.body if isinstance(node, ast.ImportFrom)]:
                source = trees[node.module.split(".")[1]]
                defined = [name for name, line in bound_names(source)]
                for alias in node.names:
                    self.assertIn(alias.name, defined)

    def test_no_two_files_draw_from_one_another(self):
        drawn = {}
        for path in paths():
            modules = [node.module for node in ast.parse(path.read_text()).body if isinstance(node, ast.ImportFrom)]
            drawn[path.stem] = {module.split(".")[1] for module in modules} | ({"__init__"} if modules else set())
        while drawn:
            free = [name for name, sources in drawn.items() if not sources & set(drawn)]
            self.assertTrue(free, sorted(drawn))
            for name in free:
                del drawn[name]


class Checks(unittest.TestCase):
    def test_what_breaks_a_rule_is_seen(self):
        for rule, text in (
            ("L2", "from os.path import join\n"),
            ("L3", "print\n\nif True:\n    A = 1\n"),
            ("L3", "A = len([1])\n"),
            ("L4", "def f(*rest):\n    return rest\n"),
            ("L5", "class Box:\n    kept = 1\n"),
            ("L6", "def f(a):\n    assert a\n"),
            ("L6", "def f(a):\n    \"\"\"Words.\"\"\"\n    return a\n"),
            ("L7", "A = 1.5\n"),
            ("L8", "def f(a):\n    return chr(a)\n"),
            ("L10", "A = 1" + " " * 120 + "\n"),
            ("L12", "def f(_a):\n    return _a\n"),
            ("L14", "# \u00e9\n"),
            ("L15", "def f(next):\n    return next\n"),
            ("L15", "A = 1\nA = 2\n"),
            ("L15", "class Box:\n    pass\n\n\ndef f(Box):\n    return Box\n"),
            ("L17", "# of this type\n"),
            ("L6", "def f(a):\n    b, c = a\n    return b + c\n"),
            ("L19", "def f(a):\n    try:\n        return a[0]\n    except TypeError:\n        return None\n"),
            ("L19", "def f(a):\n    raise a\n"),
            ("L22", "def f(a):\n    return [len, a]\n"),
            ("L22", "def f(a):\n    return int(a, base=2)\n"),
            ("L23", "def f(a):\n    return reversed(range(a))\n"),
            ("L23", "def f(a):\n    b = a.items()\n    return b\n"),
            ("L24", "def f(a):\n    b = set(a)\n    return b\n"),
            ("L20", "def f(a, b):\n    return a is b\n"),
            ("L25", "def f(a):\n    return a.casefold()\n"),
            ("L26", "def f(a):\n    a.args = 1\n"),
            ("L27", "def f(a):\n    return 2 ** a\n"),
        ):
            with self.subTest(rule=rule, text=text):
                self.assertIn(rule, [seen for seen, line in check(text, set())])

    def test_what_keeps_to_the_rules_is_not(self):
        text = '"""Words."""\n\nA = (1, 2)\n\n\ndef f(a):\n    return [k + 1 for k in a if k not in A]\n'
        self.assertEqual(list(check(text, set())), [])


if __name__ == "__main__":
    unittest.main()
