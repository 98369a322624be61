"""The rules of the language that a script can see, for all files of the package."""

import ast
import builtins
import re
from pathlib import Path

from tests.support import Case

ROOT = Path(__file__).resolve().parent.parent
PACKAGE = ROOT / "wholerises"
SOURCES = {str(path.relative_to(ROOT)): path.read_bytes().decode("utf-8") for path in sorted(PACKAGE.rglob("*.py"))}
LONG_FUNCTION = "def f():\n" + "    pass\n" * 40
BAD = (
    "x = 1  # " + "x" * 120,
    "if True:\n\tx = 1\n",
    "x = 'a'\r\n",
    "# \u00e9\n",
    LONG_FUNCTION,
    "x = 1\n" * 400,
    "import math\n",
    "from math import *\n",
    "from . import errors\n",
    "from math import gcd as g\n",
    "from math import sin\n",
    "from os import path\n",
    "from wholerises import errors\n",
    "from wholerises.errors import x\n",
    "x = 1\nfrom math import gcd\n",
    "def f():\n    from math import gcd\n",
    "from wholerises.base.ratios import gcd\n",
    "from math import gcd\ndef f(gcd):\n    return gcd\n",
    "class A:\n    pass\ndef f():\n    A = 1\n",
    "x = 1\nx = 2\n",
    "def f():\n    pass\ndef f():\n    pass\n",
    "def __f():\n    pass\n",
    "def f(__x):\n    pass\n",
    "class _A:\n    pass\n",
    "def f(min):\n    pass\n",
    "def f():\n    id = 1\n",
    "def f():\n    for map in ():\n        pass\n",
    "def f(type):\n    pass\n",
    "x = 'type'\n",
    "x = [[1]]\n",
    "def f(open):\n    pass\n",
    "class A:\n    input = 1\n",
    "class A:\n    def f(self):\n        self.register = 1\n",
    "def f():\n    def A():\n        pass\n    class B:\n        pass\n",
    "x = 1.5\n",
    "def f(a):\n    return a / 2\n",
    "x = []\nx[0] = 1\n",
    "def f(a):\n    return eval(a)\n",
    "def f(a):\n    a.sort()\n",
    "def f(a):\n    return any(x for x in a)\n",
    "def f(a, b):\n    return a ** b\n",
    "x = 'a%b'\n",
    "x = 'a\\tb\\x00'\n",
    "def f():\n    try:\n        pass\n    except TypeError:\n        pass\n",
    "def f():\n    global x\n",
    "async def f():\n    pass\n",
    "def f(a):\n    return 'a'.format_map(a)\n",
    "def f(a: int):\n    return f'{a:.2f}'\n",
    "print(1)\n",
    "def f():\n    print(1)\n",
    "def f(a):\n    return a.format(1)\n",
    "class A(dict):\n    pass\n",
    "class A:\n    def __hash__(self):\n        return 1\n",
    "def f(a, b):\n    return a is b\n",
    "def _wall():\n    pass\n",
    "# _wall\n",
    "def f():\n    return lambda type: 1\n",
    "def f(a):\n    return [sum for sum in a]\n",
    "def f(a):\n    return g(range(a))\n",
    "def f(a):\n    return zip(a, a)\n",
    "def f(a):\n    return (a.items(), 1)\n",
    "def f(a):\n    return len(enumerate(a))\n",
    "def f(a):\n    return reversed(a)[0]\n",
    "def f(a):\n    return 1\ndef g(a):\n    return f(a, 1)\n",
    "def f(a, b):\n    return 1\ndef g(a):\n    return f(a)\n",
    "from wholerises.base.ratios import reduced\ndef g(a):\n    return reduced(a)\n",
    "from wholerises.stair.stairs import each_stair\ndef g(a):\n    return each_stair(a)\n",
    "def f(a):\n    yield a\ndef g(a):\n    b = f(a)\n    return b\n",
    "def f(a):\n    return {1: a} == set(a) - a\n",
    "def f(a):\n    b = set(a)\n    for c in b:\n        return c\n",
    "def f(a):\n    for b in a:\n        a.append(b)\n",
    "def f(a):\n    for k, b in enumerate(a):\n        a[k] = b\n",
    "def f(a):\n    for k, b in a.items():\n        del a[k]\n",
    "def f(a):\n    for b in a.c:\n        a.c.pop()\n",
    "def f(a, c):\n    for b in a if c else c:\n        c.append(b)\n",
    "def f(a):\n    for b in a:\n        a += [b]\n",
    "def f(a):\n    b = a\n    for c in zip(a, a):\n        b.append(c)\n",
    "def f(a):\n    b = []\n    while a:\n        c = []\n        for d in b:\n            c.append(d)\n        b = c\n",
    "def f(a, b):\n    b, a = a, 1\n    for c in b:\n        a.append(c)\n",
    "def f(a):\n    return [a.pop() for b in a]\n",
    "class A:\n    def __exit__(self, kind, value, trace):\n        self.close()\n",
    "class A:\n    def __len__(self):\n        return self.n\n",
)
GOOD = (
    '"""Text."""\n\nfrom math import gcd\n\nfrom wholerises.errors import InvalidRow\n\nMOST = 10 ** 6\n\n\n'
    "def f(one, other=MOST):\n    return any([gcd(one, other) == k ** 2 for k in range(one)])\n",
    "def f(a):\n    b = []\n    for c in list(b):\n        b.append(c)\n    for c in a:\n        b.append(c)\n",
    "def f(a):\n    b = []\n    while a:\n        c = []\n        for d in list(b):\n            c.append(d)\n"
    "        b = c\n",
    "class A:\n    def __exit__(self, kind, value, trace):\n        self.n = False\n",)

LIBRARY = {
    "heapq": ("heappush", "heappop", "heapify", "heapreplace", "heappushpop"),
    "math": ("gcd", "lcm", "isqrt", "comb", "perm", "factorial"),
    "itertools": (
        "product", "combinations", "permutations", "chain", "accumulate", "pairwise", "islice", "zip_longest"),
    "collections": ("defaultdict",)}
BUILTINS = set(dir(builtins))
LET = set("""
    len range enumerate zip min max sum abs sorted reversed int str bool bytes list tuple dict set
    frozenset isinstance ord repr any all divmod pow getattr hasattr setattr iter next map Exception
    ValueError TypeError KeyError IndexError LookupError ZeroDivisionError ArithmeticError OverflowError
    RuntimeError NotImplementedError AttributeError StopIteration NotImplemented property staticmethod
    classmethod super
""".split())
METHODS = set("""
    append clear copy count endswith extend find get index insert isalnum isalpha isdigit islower
    isspace isupper items join keys ljust lower lstrip partition pop remove replace reverse rfind rjust
    rpartition rsplit rstrip setdefault split splitlines startswith strip update upper values zfill
    bit_length title capitalize swapcase casefold center expandtabs removeprefix removesuffix rindex
    isascii isdecimal isnumeric istitle isidentifier isprintable add discard encode decode hex translate
""".split())
DUNDERS = set("""
    __init__ __eq__ __repr__ __str__ __len__ __enter__ __exit__ __call__ __iter__ __lt__ __le__ __gt__
    __ge__ __ne__ __add__ __sub__ __mul__ __floordiv__ __mod__ __pow__ __and__ __or__ __xor__ __lshift__
    __rshift__ __neg__ __pos__ __invert__ __abs__ __bool__ __contains__ __getitem__ __setitem__
""".split())
NOWHERE = set("""
    register mro elements open input law version_info with_traceback add_note
""".split())
NO_NAMES = set("""
    attrgetter breakpoint builtins compile copyright credits delattr dir eval exec exit gc getattr
    globals hasattr help id importlib license locals methodcaller os quit setattr super type vars sys
""".split())
NO_WORDS = set("""
    type typing typing_extensions enum Enum IntEnum StrEnum Flag IntFlag Generic Protocol ABC ABCMeta
    namedtuple NamedTuple TypedDict TYPE_CHECKING abstractmethod
""".split())
NO_FILES = set("""
    test tests testing site conftest sitecustomize usercustomize heapq math itertools
""".split())
BAD_BEGINNINGS = (
    "_wall", "_pe_", "_dcw_", "_enum_", "_cm_", "_twin_re_", "_lay_", "_law_", "_stub_", "_sre", "_WallAttr")
BAD_NAMES = re.compile(r"(_cold|_tuplegetter|_outside|_record|_written_out|_member_names)[0-9_]*$")
CAUGHT = ("KeyError", "ZeroDivisionError", "StopIteration", "ValueError", "LookupError", "IndexError")
NO_NODES = (ast.Global, ast.AsyncFunctionDef, ast.AsyncFor, ast.AsyncWith, ast.Await, ast.Div)


CHANGES = (
    "append", "clear", "extend", "insert", "pop", "remove", "reverse", "setdefault", "update", "sort", "add", "discard")
AT_ONCE = ("list", "tuple", "dict", "sorted", "sum", "any", "all", "enumerate", "zip", "min", "max")
VIEWS = ("range", "zip", "enumerate", "reversed")


def folder_faults(package):
    """L1, L14: what stands in the folder."""
    faults = []
    for path in [package, *package.rglob("*")]:
        if "__pycache__" in path.parts:
            continue
        plain = re.fullmatch(r"[a-z][a-z0-9_]*", path.stem) or path.name == "__init__.py"
        if not plain or path.stem in NO_FILES | BUILTINS | NO_WORDS or path.stem.startswith(("law_", "test_")):
            faults.append(f"L14 {path}")
        if path.is_dir() and not (path / "__init__.py").is_file():
            faults.append(f"L14 no __init__.py in {path}")
        if path.is_dir() and path.with_suffix(".py").exists():
            faults.append(f"L14 a file beside {path}")
        if not path.is_dir() and path.suffix != ".py":
            faults.append(f"L1 {path}")
    return faults


def file_faults(text, sources):
    """The faults of one file, where the other files of the package are told."""
    if not all(" " <= char <= "~" or char == "\n" for char in text):
        return ["L14 a character"]
    tree = ast.parse(text)
    return (size_faults(text, tree) + word_faults(text, tree) + statement_faults(tree, sources) + name_faults(tree)
            + node_faults(tree) + iteration_faults(tree, sources) + arity_faults(tree, sources) + change_faults(tree))


def size_faults(text, tree):
    """L10."""
    lines = text.splitlines()
    faults = [f"L10 line {at + 1}" for at, line in enumerate(lines) if len(line) > 120]
    if len(lines) > 399:
        faults.append("L10 file")
    for node in ast.walk(tree):
        if isinstance(node, ast.FunctionDef) and node.end_lineno - node.lineno + 1 > 40:
            faults.append(f"L10 {node.name}")
    return faults


def docstrings_of(tree):
    """The docstrings, as nodes."""
    found = []
    for node in ast.walk(tree):
        if isinstance(node, (ast.Module, ast.ClassDef, ast.FunctionDef)) and ast.get_docstring(node) is not None:
            found.append(node.body[0].value)
    return found


def word_faults(text, tree):
    """L12, L17, L27: words and strings."""
    faults = ["L12 a word"] if "_wall" in text or "_WallAttr" in text else []
    for word in ("dataclass", "overload", "contextmanager"):
        if word in text:
            faults.append(f"L17 {word}")
    docstrings = docstrings_of(tree)
    for node in ast.walk(tree):
        if isinstance(node, ast.Constant) and isinstance(node.value, str):
            if "%" in node.value or not all(" " <= char <= "~" or char in "\n\t" for char in node.value):
                faults.append("L27 a string")
            if node not in docstrings and NO_WORDS & set(re.findall(r"\w+", node.value)):
                faults.append("L17 a word in a string")
            if re.search(r"\._+$|^__.*__$", node.value) and node.value != "__main__":
                faults.append("L27 two underscores")
    return faults


def names_bound(tree):
    """All pairs (kind, name) of names that the file gives a meaning."""
    found = []
    for node in ast.walk(tree):
        if isinstance(node, ast.FunctionDef):
            found.append(("function", node.name))
        elif isinstance(node, ast.ClassDef):
            found.append(("class", node.name))
        elif isinstance(node, ast.arg):
            found.append(("parameter", node.arg))
        elif isinstance(node, ast.Name) and isinstance(node.ctx, (ast.Store, ast.Del)):
            found.append(("variable", node.id))
        elif isinstance(node, ast.Attribute):
            found.append(("attribute", node.attr))
        elif isinstance(node, ast.ImportFrom):
            found += [("import", alias.asname or alias.name) for alias in node.names]
        elif isinstance(node, ast.ExceptHandler) and node.name:
            found.append(("error", node.name))
        elif isinstance(node, ast.keyword) and node.arg:
            found.append(("keyword", node.arg))
    return found


def name_faults(tree):
    """L12, L15, L17: names."""
    faults = []
    methods = [one for node in tree.body if isinstance(node, ast.ClassDef) for one in node.body]
    owned = {node.name for node in methods if isinstance(node, ast.FunctionDef)}
    fixed = {node.name for node in tree.body if isinstance(node, ast.ClassDef)}
    fixed |= {alias.name for node in tree.body if isinstance(node, ast.ImportFrom) for alias in node.names}
    for kind, name in names_bound(tree):
        dunder = name in DUNDERS and (name in owned or kind == "attribute")
        if not dunder and name != "_" and not re.fullmatch(r"_?[A-Za-z][A-Za-z0-9_]*", name):
            faults.append(f"L12 {name}")
        if name.startswith(BAD_BEGINNINGS) or BAD_NAMES.match(name) or (kind == "class" and name.startswith("_")):
            faults.append(f"L12 {name}")
        if name in NOWHERE or re.match(r"(f|tb|co|gi|cr|ag)_(back|next|names|code|frame|locals|globals|lineno)$", name):
            faults.append(f"L17 {name}")
        free = kind in ("attribute", "keyword")
        if not free and name in NO_NAMES | NO_WORDS:
            faults.append(f"L17 {name}")
        if not free and name in BUILTINS and not (kind == "function" and name in owned and name not in LET):
            faults.append(f"L15 {name}")
        if kind in ("parameter", "variable", "error") and name in fixed:
            faults.append(f"L15 {name}")
    return faults


def statement_faults(tree, sources):
    """L2, L3, L15, L16: what stands at module level."""
    faults = []
    bound = []
    for at, node in enumerate(tree.body):
        if isinstance(node, ast.ImportFrom):
            before = [one for one in tree.body[:at] if not isinstance(one, (ast.ImportFrom, ast.Expr))]
            faults += ["L2 not at the top"] if before else []
            faults += one_import_faults(node, sources)
            bound += [alias.name for alias in node.names]
        elif isinstance(node, (ast.FunctionDef, ast.ClassDef)):
            bound.append(node.name)
        elif isinstance(node, ast.Assign) and len(node.targets) == 1 and isinstance(node.targets[0], ast.Name):
            bound.append(node.targets[0].id)
            inner = [one for one in ast.walk(node.value) if isinstance(one, (ast.List, ast.Dict))]
            faults += ["L15 a list in a list"] if [one for one in inner if one is not node.value] else []
        elif not (at == 0 and isinstance(node, ast.Expr) and isinstance(node.value, ast.Constant)):
            faults.append("L3 a statement")
    faults += [f"L15 {name} twice" for name in bound if bound.count(name) > 1]
    inside = [one for node in tree.body for one in ast.walk(node) if one is not node]
    if [one for one in inside if isinstance(one, (ast.Import, ast.ImportFrom, ast.ClassDef))]:
        faults.append("L2 or L15 inside")
    return faults


def one_import_faults(node, sources):
    """L2, L16: one import."""
    if node.level or [alias for alias in node.names if alias.asname]:
        return ["L2 an import"]
    if node.module in LIBRARY:
        return [f"L2 {alias.name}" for alias in node.names if alias.name not in LIBRARY[node.module]]
    path = node.module.replace(".", "/") + ".py"
    if path not in sources:
        return [f"L2 {node.module}"]
    defined = []
    for one in ast.parse(sources[path]).body:
        if isinstance(one, (ast.FunctionDef, ast.ClassDef)):
            defined.append(one.name)
        elif isinstance(one, ast.Assign):
            defined += [target.id for target in one.targets]
    return [f"L16 {alias.name}" for alias in node.names if alias.name not in defined]


def import_faults(sources):
    """L16: imports in a circle."""
    goes = {}
    for name, text in sources.items():
        modules = [node.module for node in ast.parse(text).body if isinstance(node, ast.ImportFrom)]
        goes[name] = [module.replace(".", "/") + ".py" for module in modules if module.startswith("wholerises")]
    faults = []
    for name in goes:
        seen, left = set(), list(goes[name])
        while left:
            one = left.pop()
            if one not in seen:
                seen.add(one)
                left += goes.get(one, [])
        if name in seen:
            faults.append(f"L16 {name}")
    return faults


def node_faults(tree):
    """Some of L5 to L8, L19, L20, L25 and L27: parts of the language that are not used."""
    faults = []
    for node in ast.walk(tree):
        if isinstance(node, NO_NODES):
            faults.append(f"L6 or L7 {node}")
        if isinstance(node, ast.Constant) and isinstance(node.value, (float, complex)):
            faults.append("L7 a float")
        if isinstance(node, ast.Name) and node.id in BUILTINS and node.id not in LET:
            faults.append(f"L8 {node.id}")
        if isinstance(node, ast.BinOp) and isinstance(node.op, ast.Pow) and not is_let_exponent(node.right, tree):
            faults.append("L27 an exponent")
        if isinstance(node, ast.Call):
            faults += call_faults(node)
        if isinstance(node, ast.Compare) and [op for op in node.ops if isinstance(op, (ast.Is, ast.IsNot))]:
            sides = [node.left, *node.comparators]
            if not [one for one in sides if isinstance(one, ast.Constant) or getattr(one, "id", "") == "self"]:
                faults.append("L20")
        if isinstance(node, ast.ExceptHandler):
            named = node.type.elts if isinstance(node.type, ast.Tuple) else [node.type]
            if [one for one in named if not isinstance(one, ast.Name) or one.id in BUILTINS - set(CAUGHT)]:
                faults.append("L19")
        if isinstance(node, ast.ClassDef):
            faults += class_faults(node)
        if isinstance(node, ast.FormattedValue) and node.format_spec is not None:
            if re.search("[aceEfFgGn]$", ast.unparse(node.format_spec).strip("'\"")):
                faults.append("L7 a format")
    return faults


def is_let_exponent(node, tree):
    """Whether an exponent is a literal from 0 to 64, or goes over a literal range."""
    if isinstance(node, ast.Constant):
        return isinstance(node.value, int) and 0 <= node.value <= 64
    if not isinstance(node, ast.Name):
        return False
    loops = [one for one in ast.walk(tree) if isinstance(one, (ast.For, ast.comprehension))]
    return bool([one for one in loops if isinstance(one.target, ast.Name) and one.target.id == node.id])


def parents_of(tree):
    """The dict from the number of each node to the node around it."""
    return {id(inner): node for node in ast.walk(tree) for inner in ast.iter_child_nodes(node)}


def functions_in(tree, sources):
    """The dict from the names of own functions that the file can call by their bare names to their nodes."""
    found = {node.name: node for node in tree.body if isinstance(node, ast.FunctionDef)}
    for node in [node for node in tree.body if isinstance(node, ast.ImportFrom)]:
        path = (node.module or "").replace(".", "/") + ".py"
        for one in ast.parse(sources.get(path, "")).body:
            if isinstance(one, ast.FunctionDef) and one.name in [alias.name for alias in node.names]:
                found[one.name] = one
    return found


def iteration_faults(tree, sources):
    """L23, L24: what is iterated at once, and sets."""
    faults = []
    around = parents_of(tree)
    yielding = [name for name, node in functions_in(tree, sources).items()
                if [one for one in ast.walk(node) if isinstance(one, ast.Yield)]]
    for node in [node for node in ast.walk(tree) if isinstance(node, ast.Call)]:
        name = node.func.id if isinstance(node.func, ast.Name) else ""
        view = isinstance(node.func, ast.Attribute) and node.func.attr in ("items", "keys", "values") and not node.args
        parent = around[id(node)]
        if name in VIEWS or name in yielding or view:
            looped = isinstance(parent, (ast.For, ast.comprehension)) and parent.iter is node
            taken = isinstance(parent, ast.Call) and isinstance(parent.func, ast.Name) and node in parent.args and (
                parent.func.id in AT_ONCE or (parent.func.id, name) in (("reversed", "range"), ("len", "range")))
            if not looped and not taken:
                faults.append(f"L23 {ast.unparse(node)}")
        if name == "set":
            sorted_at_once = isinstance(parent, ast.Call) and getattr(parent.func, "id", "") in ("sorted", "len")
            if not sorted_at_once:
                faults.append("L24")
    return faults


def change_faults(tree):
    """L23: what a loop walks is not changed in it, by no name that it has."""
    faults = []
    for function in [node for node in ast.walk(tree) if isinstance(node, ast.FunctionDef)]:
        names = names_of_one_value(function)
        for node in ast.walk(function):
            if isinstance(node, ast.For):
                walked, rows = walked_in(node.iter), node.body
            elif isinstance(node, (ast.ListComp, ast.SetComp, ast.DictComp, ast.GeneratorExp)):
                walked, rows = [one for part in node.generators for one in walked_in(part.iter)], [node]
            else:
                continue
            for changed in [one for row in rows for one in changed_in(row)]:
                if names.get(changed, changed) in [names.get(one, one) for one in walked]:
                    faults.append(f"L23 {changed} in row {node.lineno}")
    return faults


def names_of_one_value(function):
    """The dict from names that one plain value can have, each put into the place of another, to one of them."""
    found = {}
    for node in [node for node in ast.walk(function) if isinstance(node, ast.Assign)]:
        for target in node.targets:
            sides = [(target, node.value)]
            if isinstance(target, ast.Tuple) and isinstance(node.value, ast.Tuple):
                sides = list(zip(target.elts, node.value.elts))
            for one, value in sides:
                for other in walked_in(value):
                    if isinstance(one, (ast.Name, ast.Attribute)):
                        told = found.get(ast.unparse(one), ast.unparse(one))
                        found = {key: found.get(other, other) if found[key] == told else found[key] for key in found}
                        found[ast.unparse(one)] = found.setdefault(other, other)
    return found


def walked_in(node):
    """The names and attributes that a walk over an expression goes over, as texts."""
    if isinstance(node, (ast.Name, ast.Attribute)):
        return [ast.unparse(node)]
    if isinstance(node, ast.IfExp):
        return walked_in(node.body) + walked_in(node.orelse)
    if isinstance(node, ast.BoolOp):
        return [one for value in node.values for one in walked_in(value)]
    if isinstance(node, ast.Call) and isinstance(node.func, ast.Name) and node.func.id in VIEWS:
        return [one for value in node.args for one in walked_in(value)]
    if isinstance(node, ast.Call) and isinstance(node.func, ast.Attribute) and node.func.attr in ("items", "keys", "values"):
        return walked_in(node.func.value)
    return []


def changed_in(node):
    """The names and attributes that are changed within a node, as texts."""
    found = []
    for one in ast.walk(node):
        if isinstance(one, ast.Call) and isinstance(one.func, ast.Attribute) and one.func.attr in CHANGES:
            found.append(ast.unparse(one.func.value))
        elif isinstance(one, ast.Subscript) and isinstance(one.ctx, (ast.Store, ast.Del)):
            found.append(ast.unparse(one.value))
        elif isinstance(one, ast.AugAssign):
            found.append(ast.unparse(one.target))
    return found


def arity_faults(tree, sources):
    """L22: as many arguments as own functions take."""
    faults = []
    own = functions_in(tree, sources)
    for node in [node for node in ast.walk(tree) if isinstance(node, ast.Call) and isinstance(node.func, ast.Name)]:
        if node.func.id in own and not node.keywords and not [one for one in node.args if isinstance(one, ast.Starred)]:
            told = own[node.func.id].args
            most = len(told.posonlyargs) + len(told.args)
            if not most - len(told.defaults) <= len(node.args) <= most:
                faults.append(f"L22 {node.func.id}")
    return faults


def call_faults(node):
    """L7, L22, L25: one call."""
    faults = []
    if isinstance(node.func, ast.Name) and node.func.id in ("any", "all", "sum", "min", "max", "sorted"):
        if [one for one in node.args if isinstance(one, ast.GeneratorExp)]:
            faults.append("L7 a generator expression")
    if isinstance(node.func, ast.Attribute):
        literal = isinstance(node.func.value, ast.Constant)
        if node.func.attr == "sort" or (node.func.attr == "format" and not literal):
            faults.append(f"L25 {node.func.attr}")
        if literal and node.func.attr not in METHODS and node.func.attr != "format":
            faults.append("L25 a method")
    return faults


def class_faults(node):
    """L5, L18: one class."""
    faults = []
    for base in node.bases:
        if isinstance(base, ast.Name) and base.id in BUILTINS and not base.id.endswith(("Error", "Exception")):
            faults.append("L5 a base")
    for one in node.body:
        if isinstance(one, ast.FunctionDef) and one.name.startswith("__") and one.name not in DUNDERS:
            faults.append(f"L5 {one.name}")
        if isinstance(one, ast.FunctionDef) and one.name == "__exit__":
            faults += [f"L6 {ast.unparse(row)}" for row in one.body if not isinstance(row, ast.Assign)]
        if isinstance(one, ast.FunctionDef) and one.name == "__len__":
            faults += [f"L28 {ast.unparse(row)}" for row in ast.walk(one) if isinstance(row, ast.Return)
                       and not ast.unparse(row.value).startswith("len(")]
    return faults


class Language(Case):

    def test_folders(self):
        self.assertEqual(folder_faults(PACKAGE), [])
        self.assertGreater(len(SOURCES), 12)

    def test_files(self):
        for name, text in SOURCES.items():
            self.assertEqual(file_faults(text, SOURCES), [], name)

    def test_imports(self):
        self.assertEqual(import_faults(SOURCES), [])
        circle = {"wholerises/a.py": "from wholerises.b import x\ny = 1\n",
                  "wholerises/b.py": "from wholerises.a import y\nx = 1\n"}
        self.assertNotEqual(import_faults(circle), [])

    def test_the_script_sees_what_is_bad(self):
        for text in BAD:
            self.assertNotEqual(file_faults(text, SOURCES), [], text[:200])

    def test_the_script_lets_pass_what_is_good(self):
        for text in GOOD:
            self.assertEqual(file_faults(text, SOURCES), [], text)
