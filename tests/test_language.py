"""Tests that each file of the package keeps to what a script can see of the rules of its language."""

import ast
import builtins
import io
import pathlib
import re
import tokenize
import unittest

ROOT = pathlib.Path(__file__).resolve().parent.parent
FOLDER = ROOT / "parkedrows"

LIBRARY = {"heapq": "heappush heappop heapify heapreplace heappushpop", "math": "gcd lcm isqrt comb perm factorial",
           "itertools": "product combinations permutations chain accumulate pairwise islice zip_longest",
           "collections": "defaultdict deque"}
BUILTINS = """len range enumerate zip min max sum abs sorted reversed int str bool bytes list tuple dict set frozenset
isinstance ord repr any all divmod pow getattr hasattr setattr map iter next super type property staticmethod
classmethod Exception ValueError TypeError KeyError IndexError LookupError ZeroDivisionError ArithmeticError
OverflowError RuntimeError NotImplementedError AttributeError StopIteration NotImplemented object float""".split()
METHODS = """append clear copy count endswith extend find get index insert isalnum isalpha isdigit islower isspace
isupper items join keys ljust lower lstrip partition pop remove replace reverse rfind rjust rpartition rsplit rstrip
setdefault split splitlines startswith strip update upper values zfill bit_length title capitalize swapcase casefold
center expandtabs removeprefix removesuffix rindex isascii isdecimal isnumeric istitle isidentifier isprintable
add discard sort format""".split()
OPERATORS = """lt le gt ge ne add sub mul floordiv mod pow and or xor lshift rshift radd rsub rmul rfloordiv rmod rand
ror rxor rlshift rrshift iadd isub imul ifloordiv imod ipow iand ior ixor ilshift irshift neg pos invert abs bool
contains getitem setitem init eq repr str len enter exit call iter""".split()
NO_NAMES = """register mro elements open input law version_info with_traceback add_note attrgetter breakpoint builtins
compile copyright credits delattr dir eval exec exit gc globals help id importlib license locals methodcaller os quit
vars sys""".split()
NO_WORDS = """typing typing_extensions enum Enum IntEnum StrEnum Flag IntFlag Generic Protocol ABC ABCMeta namedtuple
NamedTuple TypedDict TYPE_CHECKING abstractmethod""".split()
# Python's own shell, and doctest, put the last value under the name _.
ALL_BUILTINS = set(dir(builtins)) - {"_"}
NO_STATEMENTS = (ast.AsyncFunctionDef, ast.AsyncFor, ast.AsyncWith, ast.Await, ast.Global)
PLAIN = (ast.Constant, ast.List, ast.Tuple, ast.Dict, ast.Load, ast.BinOp, ast.UnaryOp, ast.operator, ast.unaryop,
         ast.Name)
KEYWORDS = {"sorted": ("key", "reverse"), "min": ("key", "default"), "max": ("key", "default"), "sum": ("start",),
            "enumerate": ("start",), "zip": ("strict",)}


def size_faults(text):
    """Faults against L10 and L14: lengths and characters."""
    found = [f"L14 sign {sign!r}" for sign in sorted(set(text)) if sign != "\n" and not " " <= sign <= "~"]
    lines = text.split("\n")
    if len(lines) > 400:
        found.append("L10 file")
    found += [f"L10 line {number}" for number, line in enumerate(lines, 1) if len(line) > 120]
    for node in ast.walk(ast.parse(text)):
        if isinstance(node, ast.FunctionDef) and node.end_lineno - node.lineno >= 40:
            found.append(f"L10 function {node.name}")
    return found


def import_faults(tree, defined):
    """Faults against L2, L15 and L16; defined has the names that each module of the package defines."""
    found, past, bound = [], False, []
    for at, node in enumerate(tree.body):
        if not isinstance(node, (ast.Import, ast.ImportFrom)):
            past = past or at > 0 or not isinstance(node, ast.Expr)
            continue
        if past:
            found.append("L2 import not at the top")
        if isinstance(node, ast.Import) or node.level > 0:
            found.append("L16 form of import")
            continue
        known = defined.get(node.module, LIBRARY.get(node.module, "").split())
        for name in node.names:
            bound.append(name.name)
            if name.name not in known or name.asname is not None:
                found.append(f"L2 import of {name.name} from {node.module}")
    used = [node.id for node in ast.walk(tree) if isinstance(node, ast.Name)]
    found += [f"unused import {name}" for name in bound if name not in used]
    found += ["L2 import within" for node in ast.walk(tree)
              if isinstance(node, (ast.Import, ast.ImportFrom)) and node not in tree.body]
    return found


def module_faults(tree):
    """Faults against L3, L5 and L15: what stands at module level and in classes."""
    found, names = [], []
    for at, node in enumerate(tree.body):
        if isinstance(node, (ast.Import, ast.ImportFrom)):
            names += [name.name for name in node.names]
        elif isinstance(node, (ast.FunctionDef, ast.ClassDef)):
            names.append(node.name)
        elif isinstance(node, ast.Assign) and len(node.targets) == 1 and isinstance(node.targets[0], ast.Name):
            names.append(node.targets[0].id)
            found += ["L3 value" for part in ast.walk(node.value) if not isinstance(part, PLAIN)]
        elif at > 0 or not isinstance(node, ast.Expr) or not isinstance(node.value, ast.Constant):
            found.append(f"L3 line {node.lineno}")
    found += [f"L15 bound twice {name}" for name in set(names) if names.count(name) > 1]
    for node in ast.walk(tree):
        if isinstance(node, ast.ClassDef):
            if node not in tree.body or node.decorator_list or node.keywords:
                found.append(f"L5 class {node.name}")
            found += [f"L5 {part.name}" for part in node.body if isinstance(part, ast.FunctionDef)
                      and part.name.startswith("__") and part.name.strip("_") not in OPERATORS]
        elif isinstance(node, ast.FunctionDef):
            found += [f"L4 decorator of {node.name}" for one in node.decorator_list
                      if not (isinstance(one, ast.Name) and one.id in ("property", "staticmethod", "classmethod"))
                      and not (isinstance(one, ast.Attribute) and one.attr == "setter")]
    return found


def bound_names(tree):
    """All names that a file gives to functions, classes, parameters and variables."""
    for node in ast.walk(tree):
        if isinstance(node, (ast.FunctionDef, ast.ClassDef)):
            yield node.name
        elif isinstance(node, ast.arg):
            yield node.arg
        elif isinstance(node, ast.Name) and isinstance(node.ctx, ast.Store):
            yield node.id


def name_faults(tree):
    """Faults against L8, L12, L15 and L17: names."""
    found = []
    methods = [part for node in ast.walk(tree) if isinstance(node, ast.ClassDef) for part in node.body]
    own = [part.name for part in methods if isinstance(part, ast.FunctionDef)]
    outer = [name.name for node in tree.body if isinstance(node, ast.ImportFrom) for name in node.names]
    outer += [node.name for node in tree.body if isinstance(node, ast.ClassDef)]
    for name in bound_names(tree):
        if name in ALL_BUILTINS and name not in own or name in NO_NAMES:
            found.append(f"L15 L17 name {name}")
        if name.startswith("_wall") or (name.startswith("__") and name.strip("_") not in OPERATORS):
            found.append(f"L12 name {name}")
    found += [f"L15 name {name}" for name in outer if list(bound_names(tree)).count(name)
              > (1 if name in [node.name for node in tree.body if isinstance(node, ast.ClassDef)] else 0)]
    for node in ast.walk(tree):
        if isinstance(node, ast.Name) and node.id in ALL_BUILTINS and node.id not in BUILTINS:
            found.append(f"L8 builtin {node.id}")
        elif isinstance(node, ast.Attribute) and (node.attr in NO_NAMES[:9] or node.attr in ("format_map", "mro")):
            found.append(f"L17 attribute {node.attr}")
    return found


def value_faults(tree):
    """Faults against L6, L7, L20, L22, L25 and L27: statements, signs and calls."""
    found = []
    own = [node.name for node in ast.walk(tree) if isinstance(node, ast.FunctionDef)]
    for node in ast.walk(tree):
        where = getattr(node, "lineno", 0)
        if isinstance(node, NO_STATEMENTS):
            found.append(f"L6 line {where}")
        elif isinstance(node, ast.Constant) and isinstance(node.value, (float, complex, type(...))):
            found.append(f"L7 line {where}")
        elif isinstance(node, (ast.BinOp, ast.AugAssign)) and isinstance(node.op, (ast.Div, ast.MatMult)):
            found.append(f"L7 line {where}")
        elif isinstance(node, ast.BinOp) and isinstance(node.op, ast.Pow) and not isinstance(node.right, ast.Constant):
            found.append(f"L27 line {where}")
        elif isinstance(node, ast.Compare) and any(isinstance(op, (ast.Is, ast.IsNot)) for op in node.ops):
            last = node.comparators[-1]
            if not (isinstance(last, ast.Constant) and last.value in (None, True, False)):
                found.append(f"L20 line {where}")
        elif isinstance(node, ast.ExceptHandler) and node.type is None:
            found.append(f"L19 line {where}")
        elif isinstance(node, ast.Call) and isinstance(node.func, ast.Attribute):
            name = node.func.attr
            if name not in METHODS + own and not name.startswith("__"):
                found.append(f"L25 line {where}")
        elif isinstance(node, ast.Call) and isinstance(node.func, ast.Name) and node.func.id in ALL_BUILTINS:
            allowed = KEYWORDS.get(node.func.id, ())
            found += [f"L22 line {where}" for keyword in node.keywords if keyword.arg not in allowed]
    return found


def word_faults(text):
    """Faults against L17 and L27: what stands in strings and words."""
    found = []
    docs = {node.body[0].lineno for node in ast.walk(ast.parse(text))
            if isinstance(node, (ast.Module, ast.FunctionDef, ast.ClassDef)) and ast.get_docstring(node) is not None}
    for token in tokenize.generate_tokens(io.StringIO(text).readline):
        if token.type == tokenize.COMMENT or (token.type == tokenize.STRING and token.start[0] in docs):
            continue
        if token.type == tokenize.STRING and ("%" in token.string or re.search(r"\\[^nt\\'\"]", token.string)):
            found.append(f"L27 line {token.start[0]}")
        found += [f"L17 word {word}" for word in re.findall(r"\w+", token.string) if word in NO_WORDS]
        if re.search("dataclass|overload|contextmanager", token.string):
            found.append(f"L17 line {token.start[0]}")
    if re.search(r"_wall\b|_WallAttr", text):
        found.append("L12 word")
    return found


def module_names(tree):
    """The names that a module itself defines."""
    return [node.name for node in tree.body if isinstance(node, (ast.FunctionDef, ast.ClassDef))] + \
           [node.targets[0].id for node in tree.body if isinstance(node, ast.Assign)]


def faults(text, defined):
    """All faults of a file."""
    tree = ast.parse(text)
    return (size_faults(text) + import_faults(tree, defined) + module_faults(tree) + name_faults(tree)
            + value_faults(tree) + word_faults(text))


# Methods that a class may have in place of a change: what they do is done to the object itself.
IN_PLACE = ("__init__", "__iadd__", "__call__", "__iter__")
CHANGING = "append clear extend insert pop remove reverse setdefault update add discard".split()
NO_ATTRIBUTES = """items keys values pop update append clear extend insert remove reverse setdefault sort args encode
decode hex fromhex format""".split()


def is_plain(node):
    """Whether what is ordered is plainly numbers or strings, as the code shows."""
    if isinstance(node, (ast.ListComp, ast.List)):
        parts = [node.elt] if isinstance(node, ast.ListComp) else node.elts
        return all(is_plain(part) for part in parts)
    if isinstance(node, ast.Call) and isinstance(node.func, ast.Name):
        return node.func.id in ("len", "int", "ord", "str", "repr", "range")
    return isinstance(node, ast.Constant)


def order_faults(tree):
    """Faults against L5, L7, L19, L23 and L25, for a package whose classes have operators, lengths and an order."""
    found = []
    for node in ast.walk(tree):
        where = getattr(node, "lineno", 0)
        if isinstance(node, (ast.GeneratorExp, ast.AugAssign)):
            found.append(f"L5 L7 line {where}")
        elif isinstance(node, ast.ImportFrom) and node.module == "itertools":
            found.append(f"L2 line {where}")
        elif isinstance(node, ast.Call) and ast.unparse(node.func) in ("sorted", "min", "max"):
            two = node.func.id != "sorted" and len(node.args) == 2
            if not (any if two else all)(is_plain(part) for part in node.args):
                found.append(f"L5 order line {where}")
        elif isinstance(node, ast.Call) and isinstance(node.func, ast.Attribute) and node.func.attr == "sort":
            found.append(f"L25 line {where}")
        elif isinstance(node, ast.Try):
            found += [f"L19 line {where}" for _ in node.handlers]
            found += [f"L6 line {where}" for part in node.finalbody if not isinstance(part, ast.If)
                      or ast.unparse(part.test).split(" ", 1)[-1] != "is not None"
                      or not all(isinstance(row, ast.Assign) for row in part.body) or part.orelse]
    return found


def class_faults(tree):
    """Faults against L5, L18, L26 and L28: what classes have."""
    found = []
    for node in ast.walk(tree):
        if not isinstance(node, ast.ClassDef):
            continue
        methods = {part.name: part for part in node.body if isinstance(part, ast.FunctionDef)}
        values = [part.targets[0].id for part in node.body if isinstance(part, ast.Assign)]
        kept = {part.attr for part in ast.walk(node) if isinstance(part, ast.Attribute)
                and isinstance(part.ctx, ast.Store)}
        found += [f"L18 {name}" for name in kept & set(methods) | kept & set(values) | set(values) & set(methods)]
        found += [f"L26 {name}" for name in kept & set(NO_ATTRIBUTES)]
        found += [f"L26 {name}" for name in set(methods) | kept if any(hasattr(value, name) for value in
                  ("", 0, [], {}, set(), b"")) and not name.startswith("__") and name not in METHODS]
        if "__getitem__" in methods:
            body = methods["__iter__"].body if "__iter__" in methods else []
            if len(body) != 1 or not ast.unparse(body[0]).startswith("raise TypeError("):
                found.append(f"L5 iteration of {node.name}")
        for name in ("__len__", "__str__", "__repr__", "__bool__"):
            if name in methods and not isinstance(methods[name].body[-1], ast.Return):
                found.append(f"L28 {name}")
        if "__len__" in methods and not ast.unparse(methods["__len__"].body[-1]).startswith("return len("):
            found.append("L28 __len__")
    return found


def created_in(function):
    """The names that a function assigns only new lists and dicts, so that it may change these."""
    told = {}
    for node in ast.walk(function):
        if isinstance(node, ast.Assign) and isinstance(node.targets[0], ast.Name):
            new = isinstance(node.value, (ast.List, ast.ListComp, ast.Dict, ast.DictComp)) or \
                isinstance(node.value, ast.Call) and ast.unparse(node.value.func) in ("list", "dict", "sorted")
            told.setdefault(node.targets[0].id, []).append(new)
    return [name for name in told if all(told[name])]


def changes_in(function):
    """What a function changes that it did not create, and what it calls that it is passed."""
    created, found = created_in(function), []
    passed = [arg.arg for arg in function.args.args]
    for node in ast.walk(function):
        if isinstance(node, ast.Attribute) and isinstance(node.ctx, (ast.Store, ast.Del)):
            found.append(f"L5 attribute {node.attr}")
        elif isinstance(node, ast.Subscript) and isinstance(node.ctx, (ast.Store, ast.Del)):
            if ast.unparse(node.value) not in created:
                found.append(f"L5 item of {ast.unparse(node.value)}")
        elif isinstance(node, ast.Call) and isinstance(node.func, ast.Attribute) and node.func.attr in CHANGING:
            if ast.unparse(node.func.value) not in created:
                found.append(f"L5 {ast.unparse(node.func)}")
        elif isinstance(node, ast.Call) and isinstance(node.func, ast.Name) and node.func.id in passed:
            found.append(f"L5 call of {node.func.id}")
    return found


def operator_faults(trees):
    """Faults against L5: what operators and properties change, themselves or by what they call."""
    functions, waiting = {}, []
    for tree in trees:
        for node in tree.body:
            if isinstance(node, ast.FunctionDef):
                functions.setdefault(node.name, []).append(node)
            for part in node.body if isinstance(node, ast.ClassDef) else []:
                is_property = any(ast.unparse(one) == "property" for one in getattr(part, "decorator_list", []))
                if is_property or getattr(part, "name", "").startswith("__") and part.name not in IN_PLACE:
                    waiting.append(part)
    found, seen = [], []
    while waiting:
        function = waiting.pop()
        if function in seen:
            continue
        seen.append(function)
        found += [f"{change} in {function.name}" for change in changes_in(function)]
        called = [node.func.id for node in ast.walk(function)
                  if isinstance(node, ast.Call) and isinstance(node.func, ast.Name)]
        waiting += [other for name in called for other in functions.get(name, [])]
    return found


BAD_ORDERS = ["def f(a):\n    return sorted(a)", "def f(a, b):\n    return max(a, b)", "def f(a):\n    a.sort()",
              "def f(a):\n    return min([b for b in a])", "def f(a):\n    return any(b for b in a)",
              "def f(a):\n    a += 1", "from itertools import product", "def f(a):\n    try:\n        return a[0]\n"
              "    except KeyError:\n        return 1",
              "def f(a):\n    try:\n        return a\n    finally:\n        f(0)"]
BAD_CLASSES = ["class A:\n    def __getitem__(self, at):\n        return at",
               "class A:\n    MOST = 3\n\n    def MOST(self):\n"
               "        return 1", "class A:\n    def f(self):\n        self.f = 1", "class A:\n    def f(self):\n"
               "        self.items = 1", "class A:\n    def __len__(self):\n        return self.many",
               "class A:\n    def decode(self):\n        return 1"]
BAD_OPERATORS = ["self.many = 3", "other[0] = 1", "other.append(1)", "self.rows.append(1)", "f(other)",
                 "return other(1)"]


BAD = ["x = 1.5", "def f(a):\n    return a / 2", "def f(a, b):\n    return a ** b", "import sys", "from os import path",
       "from parkedrows.rows import nothing", "from . import rows",
       "def f():\n    from math import gcd\n    return gcd",
       "x = 1\nx = 2", "def f(max):\n    return max", "def f(a):\n    return a is 3", "def f(a):\n    print(a)",
       "def f(a):\n    a.encode('ascii')", "x = '50%'", "def f():\n    pass\n" + "    pass\n" * 40, "x = '\u00e9'",
       "x = 1\n" * 400, "y = '" + "a" * 120 + "'", "def f():\n\tpass",
       "class A:\n    def __hash__(self):\n        pass",
       "def f(a):\n    sorted(a, cmp=3)", "for x in (1, 2):\n    y = x", "x = len([1])", "def f(id):\n    return id",
       "from math import gcd\n\n\ndef f(gcd):\n    return gcd", "def f(a):\n    global x\n    x = a", "f = 1j",
       "def f():\n    return chr(3)", "x = 'enum'", "async def f():\n    pass", "x = '\\x41'", "from math import gcd"]


class TestLanguage(unittest.TestCase):
    def test_each_file(self):
        files = sorted(FOLDER.glob("*.py"))
        trees = {path.stem: ast.parse(path.read_text()) for path in files}
        defined = {"parkedrows." + stem: module_names(tree) for stem, tree in trees.items()}
        self.assertIn("parkedrows.errors", defined)
        for path in files:
            self.assertEqual([], faults(path.read_bytes().decode("ascii"), defined), path.name)

    def test_classes_and_operators(self):
        trees = [ast.parse(path.read_text()) for path in sorted(FOLDER.glob("*.py"))]
        for path, tree in zip(sorted(FOLDER.glob("*.py")), trees):
            self.assertEqual([], order_faults(tree) + class_faults(tree), path.name)
        self.assertEqual([], operator_faults(trees))

    def test_generators_have_names_of_their_own(self):
        functions = [node for path in FOLDER.glob("*.py") for node in ast.walk(ast.parse(path.read_text()))
                     if isinstance(node, ast.FunctionDef)]
        names = [node.name for node in functions]
        yielding = [node.name for node in functions
                    if any(isinstance(part, (ast.Yield, ast.YieldFrom)) for part in ast.walk(node))]
        self.assertEqual(["lines"], yielding)
        self.assertEqual(1, names.count("lines"))

    def test_faults_of_classes_are_found(self):
        for text in BAD_ORDERS:
            self.assertTrue(order_faults(ast.parse(text)), text)
        for text in BAD_CLASSES:
            self.assertTrue(class_faults(ast.parse(text)), text)
        good = ("def f(a):\n    found = [b for b in a]\n    found.append(1)\n    found[0] = max(0, len(a))\n"
                "    return found\n")
        for row in BAD_OPERATORS:
            text = f"class A:\n    def __add__(self, other):\n        {row}\n"
            self.assertTrue(operator_faults([ast.parse(good.replace("found.append(1)", "a[0] = 1") + text)]), row)
        tree = ast.parse(good + "\n\nclass A:\n    def __add__(self, other):\n        return f(other)\n")
        self.assertEqual([], order_faults(tree) + class_faults(tree) + operator_faults([tree]))

    def test_no_two_files_import_from_each_other(self):
        ahead = {}
        for path in FOLDER.glob("*.py"):
            nodes = [node for node in ast.parse(path.read_text()).body if isinstance(node, ast.ImportFrom)]
            ahead[path.stem] = {node.module.split(".")[1] for node in nodes if node.module.startswith("parkedrows.")}
        while ahead:
            free = [stem for stem in ahead if not ahead[stem] & set(ahead)]
            self.assertTrue(free, f"these files import in a ring: {sorted(ahead)}")
            for stem in free:
                del ahead[stem]

    def test_nothing_else_in_the_folder(self):
        for path in FOLDER.iterdir():
            if path.name != "__pycache__":
                self.assertRegex(path.name, "^(__init__|[a-z][a-z0-9_]*)[.]py$")
                self.assertFalse(path.stem.startswith(("test", "law_")) or path.stem in ALL_BUILTINS, path.name)

    def test_faults_are_found(self):
        for text in BAD:
            self.assertTrue(faults(text, {"parkedrows.rows": ["is_parked"]}), text)
        good = '"""Doc: 50% of a / b."""\n\nfrom parkedrows.rows import is_parked\n\nMOST = 3\n\n\ndef f(a):\n' \
               '    return is_parked(a) or a ** 2 is None or "r".join(a)\n'
        self.assertEqual([], faults(good, {"parkedrows.rows": ["is_parked"]}))
