"""That the package's files keep to the language rules, as far as they can be seen from the text."""

import ast
import builtins
import io
import pathlib
import re
import tokenize
import unittest

PACKAGE = pathlib.Path(__file__).resolve().parent.parent / "peakchoice"

FREE_BUILTINS = set("""len range enumerate zip min max sum abs sorted reversed int str bool list tuple dict set
    frozenset isinstance ord repr any all divmod Exception ValueError TypeError KeyError IndexError LookupError
    ZeroDivisionError ArithmeticError OverflowError RuntimeError NotImplementedError AttributeError
    StopIteration""".split())
FREE_METHODS = set("""append clear copy count endswith extend find get index insert isalnum isalpha isdigit islower
    isspace isupper items join keys ljust lower lstrip partition pop remove replace reverse rfind rjust rpartition
    rsplit rstrip setdefault split splitlines startswith strip update upper values zfill bit_length""".split())
FREE_DUNDERS = {"__init__", "__eq__", "__repr__", "__str__", "__len__"}
BANNED_EVERYWHERE = set("""register mro elements open input version_info with_traceback add_note format
    format_map""".split())
BANNED_NAMES = set("""attrgetter breakpoint builtins compile copyright credits delattr dir eval exec exit gc getattr
    globals hasattr help id importlib license locals methodcaller os quit setattr super type vars sys""".split())
BANNED_WORDS = set("""type typing typing_extensions enum Enum IntEnum StrEnum Flag IntFlag Generic Protocol ABC
    ABCMeta namedtuple NamedTuple TypedDict TYPE_CHECKING abstractmethod""".split())
BANNED_PARTS = ("dataclass", "overload", "contextmanager")
PYTHON_NAMES = {name for name in vars(builtins) if not name.startswith("_")}
BANNED_FILES = {"test", "tests", "testing", "site", "conftest", "sitecustomize", "usercustomize"}

WALKERS = {"list", "tuple", "dict", "sorted", "sum", "any", "all", "enumerate", "zip", "min", "max"}
READERS = {"get", "index", "count", "items", "keys", "values", "copy"}
CHANGERS = {"append", "clear", "extend", "insert", "pop", "remove", "reverse", "setdefault", "update"}
FREE_KEYWORDS = {"sorted": ("key", "reverse"), "min": ("key", "default"), "max": ("key", "default"),
                 "sum": ("start",), "enumerate": ("start",), "zip": ("strict",)}
UNTAKEN = {"Exception", "TypeError", "ArithmeticError", "OverflowError", "RuntimeError", "NotImplementedError",
           "AttributeError"}
PYTHON_ATTRIBUTES = {name for kind in (str, int, list, dict, set, bytes, tuple) for name in dir(kind)}
FREE_VALUES = {"count", "index", "title", "find", "get", "join", "lower", "upper", "split", "strip", "copy", "add"}

FREE_STATEMENTS = (ast.FunctionDef, ast.ClassDef, ast.ImportFrom, ast.Assign, ast.AugAssign, ast.If, ast.While,
                   ast.For, ast.Return, ast.Break, ast.Continue, ast.Pass, ast.Raise, ast.Try, ast.Expr)
FREE_EXPRESSIONS = (ast.Constant, ast.List, ast.Tuple, ast.Dict, ast.Set, ast.BinOp, ast.UnaryOp, ast.BoolOp,
                    ast.Compare, ast.IfExp, ast.Call, ast.Attribute, ast.Subscript, ast.Slice, ast.ListComp,
                    ast.JoinedStr, ast.FormattedValue, ast.Lambda, ast.Name)


def size_faults(text):
    lines = text.split("\n")
    if len(text.splitlines()) > 399:
        yield "L10 file", 1
    for k, line in enumerate(lines, 1):
        if len(line) > 120:
            yield "L10 line", k
        if any(sign != "\n" and not " " <= sign <= "~" for sign in line):
            yield "L14 sign", k
    for node in ast.walk(ast.parse(text)):
        if isinstance(node, ast.FunctionDef) and node.end_lineno - node.lineno + 1 > 40:
            yield "L10 function", node.lineno


def word_faults(text):
    for k, line in enumerate(text.split("\n"), 1):
        if BANNED_WORDS & set(re.findall(r"\w+", line)) or any(part in line for part in BANNED_PARTS):
            yield "L17 word", k
    for token in tokenize.generate_tokens(io.StringIO(text).readline):
        if token.type == tokenize.STRING and ("%" in token.string or re.search(r"\\[^nt\\'\"]", token.string)):
            yield "L27 text", token.start[0]


def bound_names(tree):
    """Each name that is bound anywhere, with its line."""
    for node in ast.walk(tree):
        if isinstance(node, (ast.FunctionDef, ast.ClassDef)):
            yield node.name, node.lineno
        if isinstance(node, ast.Name) and isinstance(node.ctx, ast.Store):
            yield node.id, node.lineno
        if isinstance(node, ast.arg):
            yield node.arg, node.lineno
        if isinstance(node, ast.Attribute):
            yield node.attr, node.lineno
        if isinstance(node, ast.alias):
            yield node.asname or node.name, node.lineno
        if isinstance(node, ast.ExceptHandler) and node.name:
            yield node.name, node.lineno


def name_faults(text):
    tree = ast.parse(text)
    for name, line in bound_names(tree):
        if name not in FREE_DUNDERS and not re.fullmatch("[A-Za-z][A-Za-z0-9_]*", name):
            yield "L12", line
        if name in BANNED_EVERYWHERE:
            yield "L17 name", line
    for node in ast.walk(tree):
        if isinstance(node, ast.Name):
            if node.id in BANNED_NAMES or node.id in BANNED_EVERYWHERE or node.id == "__name__":
                yield "L17 name", node.lineno
            if hasattr(builtins, node.id) and node.id not in FREE_BUILTINS:
                yield "L8", node.lineno
        called_like = node.arg if isinstance(node, ast.arg) else None
        if isinstance(node, ast.Name) and isinstance(node.ctx, ast.Store):
            called_like = node.id
        if called_like is not None and (hasattr(builtins, called_like) or called_like in taken_names(tree)):
            yield "L15 local", node.lineno


def taken_names(tree):
    """The classes and imports of the file."""
    names = {node.name for node in tree.body if isinstance(node, ast.ClassDef)}
    return names | {alias.name for node in tree.body if isinstance(node, ast.ImportFrom) for alias in node.names}


def top_faults(text):
    tree = ast.parse(text)
    bound = []
    for k, node in enumerate(tree.body):
        docstring = k == 0 and isinstance(node, ast.Expr) and isinstance(node.value, ast.Constant)
        if not docstring and not isinstance(node, (ast.ImportFrom, ast.FunctionDef, ast.ClassDef, ast.Assign)):
            yield "L3", node.lineno
        if isinstance(node, (ast.FunctionDef, ast.ClassDef)):
            bound.append(node.name)
        if isinstance(node, ast.ImportFrom):
            bound += [alias.name for alias in node.names]
        if isinstance(node, ast.Assign):
            bound += [target.id for target in node.targets if isinstance(target, ast.Name)]
            if any(isinstance(part, (ast.Call, ast.ListComp, ast.Set, ast.Lambda)) for part in ast.walk(node.value)):
                yield "L3 value", node.lineno
            inner = [part for part in ast.walk(node.value) if part is not node.value]
            if any(isinstance(part, (ast.List, ast.Dict)) for part in inner):
                yield "L15 nested", node.lineno
    if len(bound) != len(set(bound)):
        yield "L15 bound twice", 1


def statement_faults(text):
    tree = ast.parse(text)
    at_top = set(map(id, tree.body))
    for node in ast.walk(tree):
        if isinstance(node, ast.stmt) and not isinstance(node, FREE_STATEMENTS):
            yield "L6", node.lineno
        if isinstance(node, (ast.ImportFrom, ast.ClassDef)) and id(node) not in at_top:
            yield "L2 L15 place", node.lineno
        if isinstance(node, ast.Assign) and (len(node.targets) != 1 or isinstance(node.targets[0], ast.Tuple)):
            yield "L6 target", node.lineno
        if isinstance(node, (ast.For, ast.While)) and node.orelse:
            yield "L6 else", node.lineno
        if isinstance(node, ast.Try) and (node.finalbody or any(taken.type is None for taken in node.handlers)):
            yield "L6 try", node.lineno
        if isinstance(node, (ast.FunctionDef, ast.ClassDef)) and node.decorator_list:
            yield "L4 L5 decorator", node.lineno
        if isinstance(node, ast.ClassDef):
            yield from class_faults(node)
        if isinstance(node, ast.arguments):
            if node.vararg or node.kwarg or node.kwonlyargs or node.posonlyargs:
                yield "L4 parameters", 1
            if any(not isinstance(value, ast.Constant) for value in node.defaults):
                yield "L4 default", node.defaults[0].lineno
        if isinstance(node, ast.arg) and node.annotation or isinstance(node, ast.FunctionDef) and node.returns:
            yield "L21", node.lineno


def class_faults(node):
    if len(node.bases) > 1 or node.keywords:
        yield "L5 base", node.lineno
    for part in node.body:
        docstring = isinstance(part, ast.Expr) and isinstance(part.value, ast.Constant)
        if not docstring and not isinstance(part, (ast.FunctionDef, ast.Pass)):
            yield "L5 body", part.lineno
    names = [part.name for part in node.body if isinstance(part, ast.FunctionDef)]
    if len(names) != len(set(names)):
        yield "L18 method twice", node.lineno


def expression_faults(text):
    tree = ast.parse(text)
    own_methods = {part.name for node in tree.body if isinstance(node, ast.ClassDef)
                   for part in node.body if isinstance(part, ast.FunctionDef)}
    for node in ast.walk(tree):
        if isinstance(node, ast.expr) and not isinstance(node, FREE_EXPRESSIONS):
            yield "L7", node.lineno
        if isinstance(node, ast.Constant) and not isinstance(node.value, (int, str, type(None))):
            yield "L7 value", node.lineno
        if isinstance(node, (ast.BinOp, ast.AugAssign)):
            if isinstance(node.op, (ast.Div, ast.MatMult)):
                yield "L7 sign", node.lineno
            power = node.right if isinstance(node, ast.BinOp) else node.value
            if isinstance(node.op, ast.Pow) and not isinstance(power, ast.Constant):
                yield "L27 power", node.lineno
        if isinstance(node, ast.ListComp) and (len(node.generators) > 1 or len(node.generators[0].ifs) > 1):
            yield "L7 comprehension", node.lineno
        if isinstance(node, ast.FormattedValue) and not (isinstance(node.value, ast.Name) and not node.format_spec):
            yield "L7 f-string", node.lineno
        if isinstance(node, ast.Compare):
            yield from is_faults(node)
        if isinstance(node, ast.Call) and isinstance(node.func, ast.Attribute):
            if node.func.attr not in FREE_METHODS | own_methods | FREE_DUNDERS:
                yield "L25", node.lineno


def is_faults(node):
    for operator, right in zip(node.ops, node.comparators):
        if isinstance(operator, (ast.Is, ast.IsNot)):
            if not (isinstance(right, ast.Constant) and right.value in (None, True, False)):
                yield "L20", node.lineno


def kept_faults(text):
    """What is walked at once stands behind an `in` or straight within a call that walks it; sets likewise."""
    tree = ast.parse(text)
    walked = set()
    compared = set()
    for node in ast.walk(tree):
        if isinstance(node, (ast.For, ast.comprehension)):
            walked.add(id(node.iter))
        if isinstance(node, ast.Call) and isinstance(node.func, ast.Name):
            if node.func.id in WALKERS:
                walked.update(map(id, node.args))
            if node.func.id in ("sorted", "len"):
                compared.update(map(id, node.args))
        if isinstance(node, ast.Compare):
            compared.update(map(id, [node.left] + node.comparators))
    for node in ast.walk(tree):
        if isinstance(node, ast.Call) and isinstance(node.func, ast.Name):
            if node.func.id in ("zip", "enumerate", "reversed", "range") and id(node) not in walked:
                yield "L23", node.lineno
            if node.func.id in ("set", "frozenset") and id(node) not in compared:
                yield "L24", node.lineno
        if isinstance(node, ast.Call) and isinstance(node.func, ast.Attribute):
            if node.func.attr in ("items", "keys", "values") and id(node) not in walked:
                yield "L23", node.lineno


def changed_faults(text):
    """Nothing that a loop walks is changed in it."""
    for loop in ast.walk(ast.parse(text)):
        if not isinstance(loop, ast.For):
            continue
        names = set()
        if isinstance(loop.iter, ast.Name):
            names = {loop.iter.id}
        elif isinstance(loop.iter, ast.Call) and isinstance(loop.iter.func, ast.Name):
            if loop.iter.func.id in ("enumerate", "zip", "reversed"):
                names = {part.id for part in loop.iter.args if isinstance(part, ast.Name)}
        elif isinstance(loop.iter, ast.Call) and isinstance(loop.iter.func, ast.Attribute):
            if isinstance(loop.iter.func.value, ast.Name):
                names = {loop.iter.func.value.id}
        for node in [part for statement in loop.body for part in ast.walk(statement)]:
            changed = None
            if isinstance(node, ast.Call) and isinstance(node.func, ast.Attribute) and node.func.attr in CHANGERS:
                changed = node.func.value
            if isinstance(node, ast.Subscript) and isinstance(node.ctx, ast.Store):
                changed = node.value
            if isinstance(changed, ast.Name) and changed.id in names:
                yield "L23 changed", node.lineno


def top_value_faults(text):
    """A list, tuple or dict of a file's top is only read on the spot."""
    tree = ast.parse(text)
    kept = {node.targets[0].id for node in tree.body if isinstance(node, ast.Assign)
            and isinstance(node.value, (ast.List, ast.Tuple, ast.Dict)) and isinstance(node.targets[0], ast.Name)}
    free = set()
    for node in ast.walk(tree):
        if isinstance(node, (ast.For, ast.comprehension)):
            free.add(id(node.iter))
        if isinstance(node, ast.Compare):
            free.update(map(id, node.comparators + [node.left]))
        if isinstance(node, ast.Subscript) and isinstance(node.ctx, ast.Load):
            free.add(id(node.value))
        if isinstance(node, ast.Call) and isinstance(node.func, ast.Name) and node.func.id in {*WALKERS, "len"}:
            free.update(map(id, node.args))
        if isinstance(node, ast.Attribute) and node.attr in READERS:
            free.add(id(node.value))
    for node in ast.walk(tree):
        if isinstance(node, ast.Name) and isinstance(node.ctx, ast.Load) and node.id in kept and id(node) not in free:
            yield "L15 handed on", node.lineno


def call_faults(text):
    """Keywords at Python's own names, and the classes that a handler takes."""
    for node in ast.walk(ast.parse(text)):
        if isinstance(node, ast.Call):
            name = node.func.id if isinstance(node.func, ast.Name) else None
            own = isinstance(node.func, ast.Name) and not hasattr(builtins, name)
            if not own and any(part.arg not in FREE_KEYWORDS.get(name, ()) for part in node.keywords):
                yield "L22 keyword", node.lineno
        if isinstance(node, ast.ExceptHandler) and node.type is not None:
            taken = node.type.elts if isinstance(node.type, ast.Tuple) else [node.type]
            if not taken or any(isinstance(part, ast.Name) and part.id in UNTAKEN for part in taken):
                yield "L19 taken", node.lineno


def value_faults(text):
    """The values of objects aren't called like what Python's own values have."""
    for node in ast.walk(ast.parse(text)):
        if isinstance(node, ast.Attribute) and isinstance(node.ctx, ast.Store):
            if node.attr in PYTHON_ATTRIBUTES - FREE_VALUES:
                yield "L26 value", node.lineno


def class_use_faults(text):
    """A class is called, is a base, or stands by isinstance, except or raise."""
    tree = ast.parse(text)
    classes = {node.name for node in tree.body if isinstance(node, ast.ClassDef)}
    free = set()
    for node in ast.walk(tree):
        if isinstance(node, ast.Call):
            free.add(id(node.func))
            if isinstance(node.func, ast.Name) and node.func.id == "isinstance":
                free.update(id(part) for given in node.args[1:] for part in ast.walk(given))
        if isinstance(node, ast.ClassDef):
            free.update(map(id, node.bases))
        if isinstance(node, ast.ExceptHandler) and node.type is not None:
            free.update(map(id, ast.walk(node.type)))
        if isinstance(node, ast.Raise):
            free.add(id(node.exc))
        if isinstance(node, ast.Attribute) and node.attr == "__init__":
            free.add(id(node.value))
    for node in ast.walk(tree):
        if isinstance(node, ast.Name) and node.id in classes and id(node) not in free:
            yield "L18 class", node.lineno


def import_faults(text):
    for node in ast.walk(ast.parse(text)):
        if isinstance(node, ast.Import):
            yield "L16 import", node.lineno
        if isinstance(node, ast.ImportFrom):
            own = re.fullmatch(r"peakchoice\.[a-z0-9_]+", node.module or "")
            if node.level or not own or any(alias.name == "*" or alias.asname for alias in node.names):
                yield "L2", node.lineno


CHECKS = (size_faults, word_faults, name_faults, top_faults, statement_faults, expression_faults, kept_faults,
          changed_faults, top_value_faults, call_faults, value_faults, class_use_faults, import_faults)


def faults(text):
    return [fault for check in CHECKS for fault in check(text)]


def sources():
    return {path.stem: path.read_text(encoding="utf-8") for path in sorted(PACKAGE.glob("*.py"))}


def defined_names(text):
    """The names that a file's top defines itself."""
    tree = ast.parse(text)
    names = {node.name for node in tree.body if isinstance(node, (ast.FunctionDef, ast.ClassDef))}
    return names | {node.targets[0].id for node in tree.body if isinstance(node, ast.Assign)}


def drawn(text):
    """The files that a file draws from, each with the name it takes."""
    return [(node.module.split(".")[1], alias.name) for node in ast.parse(text).body
            if isinstance(node, ast.ImportFrom) for alias in node.names]


class TestFiles(unittest.TestCase):
    def test_folder(self):
        self.assertTrue((PACKAGE / "__init__.py").is_file())
        for path in PACKAGE.iterdir():
            if path.name == "__pycache__":
                continue
            self.assertTrue(path.is_file() and re.fullmatch(r"[a-z0-9_]+\.py", path.name), path)
            self.assertFalse(path.stem in BANNED_FILES or path.stem.startswith("test_"), path)
            self.assertFalse(path.stem in BANNED_WORDS or path.stem in PYTHON_NAMES, path)

    def test_each_file(self):
        self.assertGreater(len(sources()), 1)
        for name, text in sources().items():
            self.assertEqual(faults(text), [], name)

    def test_init_binds_nothing(self):
        tree = ast.parse(sources()["__init__"])
        self.assertTrue(all(isinstance(node, ast.Expr) for node in tree.body))

    def test_names_come_from_the_file_that_defines_them(self):
        texts = sources()
        for name, text in texts.items():
            for module, taken in drawn(text):
                self.assertIn(module, texts, name)
                self.assertIn(taken, defined_names(texts[module]), name)

    def test_no_circle_of_imports(self):
        left = {name: {module for module, taken in drawn(text)} for name, text in sources().items()}
        while left:
            free = [name for name in left if not left[name] & set(left)]
            self.assertTrue(free, left)
            for name in free:
                left.pop(name)

    def test_the_interface_is_defined_once(self):
        places = [name for name, text in sources().items() if "answers" in defined_names(text)]
        self.assertEqual(places, ["mechanism"])

    def test_no_name_is_a_method_and_a_value(self):
        methods = set()
        values = set()
        for text in sources().values():
            for node in ast.walk(ast.parse(text)):
                if isinstance(node, ast.ClassDef):
                    methods |= {part.name for part in node.body if isinstance(part, ast.FunctionDef)}
                if isinstance(node, ast.Attribute) and isinstance(node.ctx, ast.Store):
                    values.add(node.attr)
        self.assertEqual(methods & values, set())
        self.assertEqual(values & set("""items keys values pop update append clear extend insert remove reverse
            setdefault sort args encode format""".split()), set())


class TestTheChecks(unittest.TestCase):
    """Each check finds what it is there for."""

    BAD = (
        ("L10 file", "\n" * 400), ("L10 line", "# " + "x" * 119), ("L14 sign", "x = 1\t"), ("L14 sign", "# \u00e9"),
        ("L10 function", "def f():\n" + "    pass\n" * 40), ("L17 word", "# the type"), ("L17 word", "x = 'Flag'"),
        ("L17 word", "# my_overloaded"), ("L27 text", "x = '%'"), ("L27 text", "x = '\\x41'"),
        ("L12", "def f(_a):\n    pass"), ("L12", "def f():\n    for _ in (1, 2):\n        pass"),
        ("L17 name", "def f(a):\n    return a.elements"), ("L17 name", "def f(a):\n    return sys"),
        ("L8", "def f(a):\n    return map(a)"), ("L15 local", "def f(id):\n    pass"),
        ("L15 local", "def f():\n    min = 1"),
        ("L15 local", "from peakchoice.a import b\ndef f(b):\n    pass"), ("L3", "for x in (1, 2):\n    pass"),
        ("L3 value", "x = len('a')"), ("L15 nested", "x = ([1], 2)"), ("L15 bound twice", "x = 1\nx = 2"),
        ("L6", "def f():\n    assert 1"), ("L6", "def f(a):\n    with a:\n        pass"),
        ("L6 target", "def f():\n    a = b = 1"), ("L6 target", "def f():\n    a, b = 1, 2"),
        ("L6 else", "def f():\n    while 0:\n        pass\n    else:\n        pass"),
        ("L6 try", "def f():\n    try:\n        pass\n    except:\n        pass"),
        ("L2 L15 place", "def f():\n    from peakchoice.a import b"), ("L4 L5 decorator", "@f\ndef g():\n    pass"),
        ("L5 base", "class A(B, C):\n    pass"), ("L5 body", "class A:\n    x = 1"),
        ("L18 method twice", "class A:\n    def f(self):\n        pass\n    def f(self):\n        pass"),
        ("L4 parameters", "def f(*a):\n    pass"), ("L4 default", "def f(a=-1):\n    pass"),
        ("L21", "def f(a: int):\n    pass"), ("L7", "def f():\n    return {x: 1 for x in (1, 2)}"),
        ("L7", "def f():\n    return sum(x for x in (1, 2))"), ("L7", "def f():\n    return (a := 1)"),
        ("L7 value", "x = 1.0"), ("L7 value", "x = b''"), ("L7 sign", "def f(a):\n    return a / 2"),
        ("L27 power", "def f(a):\n    return 2 ** a"),
        ("L7 comprehension", "def f(a):\n    return [x for y in a for x in y]"),
        ("L7 f-string", "def f(a):\n    return f'{a + 1}'"), ("L20", "def f(a, b):\n    return a is b"),
        ("L25", "def f(a):\n    a.sort()"), ("L23", "def f(a):\n    b = range(a)"),
        ("L23", "def f(a):\n    return len(range(a))"), ("L23", "def f(a):\n    return g(a.items())"),
        ("L23 changed", "def f(a):\n    for b in a:\n        a.append(b)"),
        ("L23 changed", "def f(a):\n    for k, b in enumerate(a):\n        a[k] = b"),
        ("L23 changed", "def f(a):\n    for b in a.values():\n        a.pop(b)"),
        ("L15 handed on", "X = (1, 2)\ndef f():\n    return X"), ("L15 handed on", "X = [1]\ndef f():\n    g(X)"),
        ("L15 handed on", "X = {}\ndef f():\n    X[1] = 2"), ("L15 handed on", "X = []\ndef f():\n    X.append(2)"),
        ("L22 keyword", "def f(a):\n    return len(obj=a)"), ("L22 keyword", "def f(a):\n    return a.split(sep=a)"),
        ("L19 taken", "def f():\n    try:\n        g()\n    except Exception:\n        pass"),
        ("L19 taken", "def f():\n    try:\n        g()\n    except (KeyError, TypeError):\n        pass"),
        ("L26 value", "class A:\n    def __init__(self):\n        self.values = 1"),
        ("L26 value", "class A:\n    def __init__(self):\n        self.real = 1"),
        ("L18 class", "class A:\n    pass\ndef f():\n    return [A]"),
        ("L24", "def f(a):\n    b = set(a)"), ("L24", "def f(a):\n    return list(set(a))"),
        ("L16 import", "import sys"), ("L2", "from os import path"),
        ("L2", "from .a import b"), ("L2", "from peakchoice.a import *"),
    )

    def test_each(self):
        for rule, text in self.BAD:
            self.assertIn(rule, [found for found, line in faults(text)], text)

    def test_nothing_is_found_in_plain_code(self):
        text = ('"""Words."""\n\nfrom peakchoice.a import b\n\nX = (1, (2, 3))\n\n\n'
                'def f(a):\n    return [b(k) for k in a if k in X]\n')
        self.assertEqual(faults(text), [])


if __name__ == "__main__":
    unittest.main()
