"""The rules L1 to L28, as far as they can be read off the package's files.

Where a rule leaves much room that the package doesn't need, the reader allows less:
no sets, no keywords, no lambda, no error of Python's own taken, no method with two
underscores but __init__, no function that comes back to itself.
"""

import ast
import builtins
import pathlib
import re
import unittest

import straightpieces

FOLDER = pathlib.Path(straightpieces.__file__).parent
FILES = sorted(FOLDER.glob("*.py"))

GOOD = '''"""A file."""

from straightpieces.ratios import plus

MOST = 5
ROWS = {1: (2, -3)}


class Kept:
    def __init__(self):
        self.rows = []

    def put(self, row):
        for k, old in enumerate(self.rows):
            if old == row:
                return k
        self.rows.append(plus(row, row))
        return None
'''

BAD = (
    ("L3", "import math\n"),
    ("L2", "from math import gcd\n"),
    ("L2", "from .ratios import plus\n"),
    ("L2", "def f():\n    from straightpieces.ratios import plus\n    return plus\n"),
    ("L3", "MOST = len('abc')\n"),
    ("L3", "if True:\n    MOST = 5\n"),
    ("L3", "ROWS = [[1], [2]]\n"),
    ("L4", "def f(*args):\n    return args\n"),
    ("L5", "class A:\n    most = 5\n"),
    ("L6", "def f(x):\n    assert x\n"),
    ("L6", "def f(x):\n    x, y = x\n    return y\n"),
    ("L6", "def f(x):\n    y = z = x\n    return y\n"),
    ("L6", "def f(x):\n    'text'\n    return x\n"),
    ("L6", "def f(x):\n    for y in x:\n        pass\n    else:\n        return 1\n"),
    ("L7", "def f(x):\n    return x / 2\n"),
    ("L7", "def f(x):\n    return 0.5\n"),
    ("L7", "def f(x):\n    return {y for y in x}\n"),
    ("L7", "def f(x):\n    return [*x]\n"),
    ("L7", "def f(x):\n    return (y := x)\n"),
    ("L8", "def f(x):\n    return hash(x)\n"),
    ("L8", "def f(x):\n    print(x)\n"),
    ("L10", "def f(x):\n" + "    x += 1\n" * 40),
    ("L10", "# " + "x" * 120 + "\n"),
    ("L11", "def f(x):\n    return f(x - 1)\n"),
    ("L11", "def f(x):\n    return g(x)\n\n\ndef g(x):\n    return [f(y) for y in x]\n"),
    ("L12", "def f(x):\n    for _ in x:\n        return 1\n"),
    ("L13", "def f(x):\n    return x in {1, 2, 3}\n"),
    ("L14", "# \u00e9\n"),
    ("L15", "ROWS = {1: 2}\n\n\ndef f(x):\n    ROWS[x] = 1\n"),
    ("L15", "ROWS = [1, 2]\n\n\ndef f(x):\n    ROWS.append(x)\n"),
    ("L15", "ROWS = [1, 2]\n\n\ndef f():\n    return ROWS\n"),
    ("L15", "ROWS = [1, 2]\n\n\ndef f(x):\n    x.rows = ROWS\n"),
    ("L15", "def f(sum):\n    return 1\n"),
    ("L15", "from straightpieces.ratios import plus\n\n\ndef f(plus):\n    return 1\n"),
    ("L15", "MOST = 1\nMOST = 2\n"),
    ("L17", "# its " + "ty" + "pe\n"),
    ("L17", "def f(x):\n    return x.f_back\n"),
    ("L17", "def f(x):\n    f_line = x\n    return f_line\n"),
    ("L17", "def f(x):\n    return vars(x)\n"),
    ("L18", "class A:\n    pass\n\n\ndef f():\n    return A\n"),
    ("L18", "class A(AttributeError):\n    pass\n"),
    ("L19", "def f(x):\n    try:\n        return x\n    except Exception:\n        return 1\n"),
    ("L19", "def f(x):\n    try:\n        return x\n    except ValueError:\n        return 1\n"),
    ("L19", "class A(Exception):\n    pass\n\n\ndef f(e):\n    raise e\n"),
    ("L20", "def f(x, y):\n    return x is y\n"),
    ("L21", "def f(x: int):\n    return x\n"),
    ("L22", "def f(x):\n    return sorted(x, reverse=True)\n"),
    ("L22", "def f(x):\n    y = len\n    return y(x)\n"),
    ("L22", "def f(x):\n    return isinstance(x, set)\n"),
    ("L23", "def f(x):\n    y = zip(x, x)\n    return y\n"),
    ("L23", "def f(x):\n    for y in x:\n        x.append(y)\n"),
    ("L24", "def f(x):\n    y = set(x)\n    return y\n"),
    ("L25", "def f(x):\n    x.sort()\n"),
    ("L25", "def f(x):\n    return x.append\n"),
    ("L26", "class A:\n    def __init__(self):\n        self.items = []\n"),
    ("L27", "def f(x):\n    return 2 ** x\n"),
    ("L27", "def f(x):\n    return 'a' + '%'\n"),
    ("L28", "class A:\n    def __init__(self):\n        return None\n"),
    ("L28", "class A:\n    def __len__(self):\n        return 1\n"),
)

OWN_NAMES = set("""len range enumerate zip min max sum abs sorted reversed int str bool list tuple dict set frozenset
    isinstance ord repr any all divmod Exception ValueError TypeError KeyError IndexError LookupError
    ZeroDivisionError ArithmeticError OverflowError RuntimeError NotImplementedError AttributeError
    StopIteration""".split())
OWN_METHODS = set("""append clear copy count endswith extend find get index insert isalnum isalpha isdigit islower
    isspace isupper items join keys ljust lower lstrip partition pop remove replace reverse rfind rjust rpartition
    rsplit rstrip setdefault split splitlines startswith strip update upper values zfill bit_length""".split())
NOT_FREE = {name for kind in (str, int, list, dict, set, bytes) for name in dir(kind)}
WORDS_OUT = re.compile(r"\b(type|typing|typing_extensions|enum|Enum|IntEnum|StrEnum|Flag|IntFlag|Generic|Protocol"
                       r"|ABC|ABCMeta|namedtuple|NamedTuple|TypedDict|TYPE_CHECKING|abstractmethod)\b"
                       r"|dataclass|overload|contextmanager")
NAMES_OUT = set("register mro elements open input version_info with_traceback add_note".split())
FRAME_NAMES = re.compile(r"(f|tb|co|gi|cr|ag)_\w+")
NOT_AS_NAMES = set("""attrgetter breakpoint builtins compile copyright credits delattr dir eval exec exit gc getattr
    globals hasattr help id importlib license locals methodcaller os quit setattr super type vars sys
    __name__""".split())
FILES_OUT = set("test tests testing site conftest sitecustomize usercustomize".split()) | set(dir(builtins))
STATEMENTS = (ast.FunctionDef, ast.ClassDef, ast.Assign, ast.AugAssign, ast.If, ast.While, ast.For, ast.Return,
              ast.Break, ast.Continue, ast.Pass, ast.Raise, ast.Try, ast.Expr, ast.ImportFrom)
EXPRESSIONS = (ast.Constant, ast.Name, ast.Attribute, ast.Subscript, ast.Slice, ast.Call, ast.BinOp, ast.UnaryOp,
               ast.BoolOp, ast.Compare, ast.IfExp, ast.List, ast.Tuple, ast.Dict, ast.ListComp,
               ast.JoinedStr, ast.FormattedValue)
WALKED = set("zip enumerate reversed range".split())
MAY_WALK = set("list tuple dict sorted sum any all enumerate zip min max".split())
CHANGES = set("append clear extend insert pop remove reverse setdefault update".split())
READS = set("len list tuple dict sorted sum any all enumerate zip min max reversed".split())
READING_METHODS = set("get items keys values count index copy".split())


def faults(source, package="straightpieces"):
    tree = ast.parse(source)
    found = text_faults(source) + top_faults(tree) + kept_faults(tree) + loop_faults(tree)
    for node in ast.walk(tree):
        found += node_faults(node, tree, package)
    return sorted(set(found))


def text_faults(source):
    found = []
    for k, row in enumerate(source.split("\n"), start=1):
        if len(row) > 120:
            found.append(f"L10 line {k}: too long")
        if any(not " " <= sign <= "~" for sign in row):
            found.append(f"L14 line {k}: sign")
        if WORDS_OUT.search(row):
            found.append(f"L17 line {k}: word")
    if source.count("\n") > 400:
        found.append("L10: file too long")
    return found


def is_plain(node):
    if isinstance(node, (ast.List, ast.Tuple)):
        return all(is_plain(part) and not isinstance(part, (ast.List, ast.Dict)) for part in node.elts)
    if isinstance(node, ast.Dict):
        return all(is_plain(part) and not isinstance(part, (ast.List, ast.Dict)) for part in node.keys + node.values)
    if isinstance(node, ast.UnaryOp) and isinstance(node.op, ast.USub):
        return is_plain(node.operand)
    return isinstance(node, ast.Constant)


def top_faults(tree):
    found = []
    bound = []
    for k, node in enumerate(tree.body):
        if isinstance(node, (ast.FunctionDef, ast.ClassDef)):
            bound.append(node.name)
        elif isinstance(node, ast.ImportFrom):
            bound += [name.asname or name.name for name in node.names]
        elif isinstance(node, ast.Assign) and is_plain(node.value):
            bound += [target.id for target in node.targets if isinstance(target, ast.Name)]
        elif not (k == 0 and isinstance(node, ast.Expr) and isinstance(node.value, ast.Constant)):
            found.append(f"L3 line {node.lineno}: top of a module")
    found += [f"L15: {name} is bound twice" for name in bound if bound.count(name) > 1]
    outer = {node.name for node in tree.body if isinstance(node, ast.ClassDef)}
    outer |= {name.asname or name.name for node in tree.body if isinstance(node, ast.ImportFrom) for name in node.names}
    for node in ast.walk(tree):
        if isinstance(node, ast.FunctionDef):
            found += [f"L15 line {node.lineno}: {name}" for name in locals_of(node)
                      if name in outer or hasattr(builtins, name)]
    return found


def parent_of(node, tree):
    return next(above for above in ast.walk(tree) if node in ast.iter_child_nodes(above))


def is_only_read(node, tree):
    """Whether this naming of a list or dict of the file's top neither changes it nor hands it on."""
    above = parent_of(node, tree)
    if isinstance(above, ast.Subscript):
        return above.value is node and isinstance(above.ctx, ast.Load)
    if isinstance(above, (ast.For, ast.comprehension)):
        return above.iter is node
    if isinstance(above, ast.Call):
        return isinstance(above.func, ast.Name) and above.func.id in READS
    return isinstance(above, ast.Compare) or isinstance(above, ast.Attribute) and above.attr in READING_METHODS


def kept_faults(tree):
    tops = {node.targets[0].id for node in tree.body
            if isinstance(node, ast.Assign) and isinstance(node.value, (ast.List, ast.Dict))}
    return [f"L15 line {node.lineno}: {node.id}" for node in ast.walk(tree)
            if isinstance(node, ast.Name) and node.id in tops and parent_of(node, tree) not in tree.body
            and not is_only_read(node, tree)]


def loop_faults(tree):
    """Functions that, by the names that they call, come back to themselves."""
    calls = {}
    for node in ast.walk(tree):
        if isinstance(node, ast.FunctionDef):
            called = [part.func for part in ast.walk(node) if isinstance(part, ast.Call)]
            calls[node.name] = {part.id if isinstance(part, ast.Name) else getattr(part, "attr", "") for part in called}
    while calls:
        free = [name for name in calls if not any(other in calls for other in calls[name])]
        if not free:
            return [f"L11: {name} comes back to itself" for name in calls]
        calls = {name: calls[name] for name in calls if name not in free}
    return []


def locals_of(function):
    given = [argument.arg for argument in function.args.args]
    stored = [node.id for node in ast.walk(function) if isinstance(node, ast.Name) and isinstance(node.ctx, ast.Store)]
    return set(given + stored)


def node_faults(node, tree, package):
    where = f"line {getattr(node, 'lineno', 0)}"
    found = []
    if isinstance(node, ast.stmt) and not isinstance(node, STATEMENTS):
        found.append(f"L6 {where}: {ast.dump(node)[:30]}")
    if isinstance(node, ast.expr) and not isinstance(node, EXPRESSIONS):
        found.append(f"L7 {where}: {ast.dump(node)[:30]}")
    for kinds, check in CHECKS:
        if isinstance(node, kinds):
            found += [f"{rule} {where}" for rule in check(node, tree, package)]
    return found


def check_import(node, tree, package):
    own = node.level == 0 and (node.module or "").startswith(package + ".")
    plain = all(name.name != "*" for name in node.names) and node in tree.body
    return [] if own and plain or node.module == "__future__" else ["L2"]


def check_function(node, tree, package):
    args = node.args
    found = []
    if args.vararg or args.kwarg or args.kwonlyargs or args.posonlyargs or node.decorator_list:
        found.append("L4")
    if node.returns or any(argument.annotation for argument in args.args):
        found.append("L21")
    if node.end_lineno - node.lineno + 1 > 40:
        found.append("L10")
    if any(isinstance(part, ast.Expr) and isinstance(part.value, ast.Constant) for part in node.body):
        found.append("L6 text as a statement")
    if not plain_name(node.name) and not node.name.startswith("__"):
        found.append("L12")
    if node.name.startswith("__"):
        returns = [part for part in ast.walk(node) if isinstance(part, ast.Return)]
        found += ["L28"] if returns or node.name != "__init__" else []
    return found + ["L17" for argument in args.args if FRAME_NAMES.fullmatch(argument.arg)]


def check_class(node, tree, package):
    found = []
    if node not in tree.body or len(node.bases) > 1 or node.keywords or node.decorator_list:
        found.append("L5")
    methods = [part.name for part in node.body if isinstance(part, ast.FunctionDef)]
    if any(not isinstance(part, (ast.FunctionDef, ast.Pass)) for part in node.body):
        found.append("L5 class body")
    if len(methods) != len(set(methods)):
        found.append("L18")
    if any(isinstance(base, ast.Name) and base.id in ("StopIteration", "AttributeError") for base in node.bases):
        found.append("L18")
    free_too = OWN_METHODS | {"__init__", "add", "discard"}
    return found + ["L26" for name in methods if name in NOT_FREE and name not in free_too]


def plain_name(name):
    return re.fullmatch(r"[A-Za-z][A-Za-z0-9_]*", name) is not None


def check_name(node, tree, package):
    found = []
    if not plain_name(node.id):
        found.append("L12")
    if hasattr(builtins, node.id) and (node.id not in OWN_NAMES or isinstance(node.ctx, ast.Store)):
        found.append("L8 " + node.id)
    if node.id in NAMES_OUT | NOT_AS_NAMES or FRAME_NAMES.fullmatch(node.id):
        found.append("L17")
    if node.id in ("set", "frozenset"):
        found.append("L24")
    above = parent_of(node, tree)
    is_called = isinstance(above, ast.Call) and above.func is node
    if is_called or isinstance(above, (ast.ClassDef, ast.ExceptHandler)):
        return found
    if node.id in OWN_NAMES:
        found.append("L22")
    if node.id in {part.name for part in ast.walk(tree) if isinstance(part, ast.ClassDef)}:
        found.append("L18")
    return found


def check_attribute(node, tree, package):
    own = {part.name for part in ast.walk(tree) if isinstance(part, ast.FunctionDef)}
    if node.attr in NAMES_OUT or not plain_name(node.attr) or FRAME_NAMES.fullmatch(node.attr):
        return ["L17"]
    if isinstance(node.ctx, ast.Store) and node.attr in NOT_FREE:
        return ["L26"]
    above = parent_of(node, tree)
    if node.attr in OWN_METHODS and not (isinstance(above, ast.Call) and above.func is node):
        return ["L25 not called"]
    if node.attr in NOT_FREE and node.attr not in OWN_METHODS and node.attr not in own:
        return ["L25 " + node.attr]
    return []


def check_assign(node, tree, package):
    return [] if len(node.targets) == 1 and not isinstance(node.targets[0], (ast.Tuple, ast.List)) else ["L6 target"]


def check_loop(node, tree, package):
    walked = ast.dump(node.iter)
    changed = [part for part in ast.walk(node) if isinstance(part, ast.Call) and isinstance(part.func, ast.Attribute)
               and part.func.attr in CHANGES and ast.dump(part.func.value) in walked]
    found = ["L23"] if changed else []
    return found + (["L6 else"] if node.orelse else [])


def check_while(node, tree, package):
    return ["L6 else"] if node.orelse else []


def check_try(node, tree, package):
    found = ["L6 finally"] if node.finalbody else []
    for handler in node.handlers:
        if not isinstance(handler.type, ast.Name) or hasattr(builtins, handler.type.id):
            found.append("L19")
    return found


def check_raise(node, tree, package):
    return [] if isinstance(node.exc, ast.Call) and node.cause is None else ["L19"]


def check_set(node, tree, package):
    return ["L13"]


def check_statement_value(node, tree, package):
    is_docstring = node is tree.body[0] and isinstance(node.value, ast.Constant)
    return [] if is_docstring or isinstance(node.value, ast.Call) else ["L6"]


def check_constant(node, tree, package):
    value = node.value
    if isinstance(value, str) and "%" in value:
        return ["L27"]
    return [] if value is None or isinstance(value, (bool, int, str)) else ["L7"]


def check_operation(node, tree, package):
    if isinstance(node.op, (ast.Div, ast.MatMult)):
        return ["L7"]
    if isinstance(node.op, ast.Pow):
        exponent = node.right if isinstance(node, ast.BinOp) else node.value
        return [] if isinstance(exponent, ast.Constant) and 0 <= exponent.value <= 64 else ["L27"]
    return []


def check_compare(node, tree, package):
    sides = [node.left] + node.comparators
    single = [isinstance(side, ast.Constant) and side.value in (None, True, False) for side in sides]
    beside = [single[k] or single[k + 1] for k, op in enumerate(node.ops) if isinstance(op, (ast.Is, ast.IsNot))]
    return [] if all(beside) else ["L20"]


def check_comprehension(node, tree, package):
    return [] if len(node.generators) == 1 and len(node.generators[0].ifs) <= 1 else ["L7"]


def check_call(node, tree, package):
    found = []
    if any(isinstance(part, ast.Starred) for part in node.args) or any(part.arg is None for part in node.keywords):
        found.append("L7 star")
    if node.keywords:
        found.append("L22")
    if isinstance(node.func, ast.Name) and node.func.id in WALKED and not is_walked(node, tree):
        found.append("L23")
    return found


def is_walked(call, tree):
    for node in ast.walk(tree):
        if isinstance(node, (ast.For, ast.comprehension)) and node.iter is call:
            return True
        if isinstance(node, ast.Call) and isinstance(node.func, ast.Name) and node.func.id in MAY_WALK:
            if call in node.args:
                return True
    return False


CHECKS = (
    (ast.ImportFrom, check_import),
    (ast.FunctionDef, check_function),
    (ast.ClassDef, check_class),
    (ast.Name, check_name),
    (ast.Attribute, check_attribute),
    (ast.Assign, check_assign),
    (ast.For, check_loop),
    (ast.While, check_while),
    (ast.Try, check_try),
    (ast.Raise, check_raise),
    (ast.Set, check_set),
    (ast.Expr, check_statement_value),
    (ast.Constant, check_constant),
    ((ast.BinOp, ast.AugAssign), check_operation),
    (ast.Compare, check_compare),
    (ast.ListComp, check_comprehension),
    (ast.Call, check_call),
)


def imports_of(file):
    return [node.module for node in ast.parse(file.read_text()).body if isinstance(node, ast.ImportFrom)]


class TestLanguage(unittest.TestCase):
    def test_every_file_keeps_to_the_rules(self):
        self.assertTrue(FILES)
        for file in FILES:
            self.assertEqual(faults(file.read_text(encoding="utf-8")), [], file.name)

    def test_nothing_else_lies_in_the_package(self):
        for path in FOLDER.iterdir():
            if path.name != "__pycache__":
                self.assertRegex(path.name, r"\A([a-z][a-z0-9_]*|__init__)\.py\Z")
                self.assertNotIn(path.stem, FILES_OUT)
                self.assertFalse(path.stem.startswith("test_") or WORDS_OUT.search(path.stem), path.name)
        self.assertTrue((FOLDER / "__init__.py").is_file())

    def test_names_are_drawn_from_the_file_that_defines_them(self):
        for file in FILES:
            for node in ast.parse(file.read_text()).body:
                if isinstance(node, ast.ImportFrom):
                    source = (FOLDER / (node.module.split(".")[1] + ".py")).read_text()
                    for name in node.names:
                        defined = re.search(rf"^(def |class )?{name.name}\b", source, re.MULTILINE)
                        self.assertTrue(defined, (file.name, name.name))

    def test_no_two_files_draw_from_one_another(self):
        drawn = {"straightpieces." + file.stem: imports_of(file) for file in FILES if file.stem != "__init__"}
        while drawn:
            free = [name for name in drawn if not any(other in drawn for other in drawn[name])]
            self.assertTrue(free, drawn)
            drawn = {name: drawn[name] for name in drawn if name not in free}
        self.assertEqual(imports_of(FOLDER / "__init__.py"), [])

    def test_no_name_is_a_method_here_and_a_value_there(self):
        methods, values = set(), set()
        for file in FILES:
            for node in ast.walk(ast.parse(file.read_text())):
                if isinstance(node, ast.ClassDef):
                    methods |= {part.name for part in node.body if isinstance(part, ast.FunctionDef)}
                if isinstance(node, ast.Attribute) and isinstance(node.ctx, ast.Store):
                    values.add(node.attr)
        self.assertEqual(methods & values, set())

    def test_the_reader_of_the_rules_sees_what_breaks_them(self):
        self.assertEqual(faults(GOOD), [])
        for rule, source in BAD:
            found = [fault.split()[0].rstrip(":") for fault in faults(source)]
            self.assertIn(rule, found, source)
