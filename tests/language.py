"""Faults of a package file against part of the language rules.

Looked at are L2 to L8, L10, L12, L14 to L18, L20 to L27, each in its plainest cases. Not looked at are L9, L11, L13,
L19 and L28, nor in L23 whether a loop changes what it walks: these are still to be read by eye.
"""

import ast
import re

NODES = {
    "Module", "Expr", "Constant", "ImportFrom", "alias", "FunctionDef", "arguments", "arg", "ClassDef", "Lambda",
    "Assign", "AugAssign", "If", "While", "For", "Return", "Break", "Continue", "Pass", "Raise", "Try",
    "ExceptHandler", "Name", "Load", "Store", "List", "Tuple", "Dict", "BinOp", "UnaryOp", "BoolOp", "Compare",
    "IfExp", "Call", "keyword", "Attribute", "Subscript", "Slice", "ListComp", "comprehension", "JoinedStr",
    "FormattedValue", "Add", "Sub", "Mult", "FloorDiv", "Mod", "Pow", "BitAnd", "BitOr", "BitXor", "LShift",
    "RShift", "Invert", "USub", "Not", "And", "Or", "Eq", "NotEq", "Lt", "LtE", "Gt", "GtE", "Is", "IsNot", "In",
    "NotIn",
}
BUILT_IN = set(
    "len range enumerate zip min max sum abs sorted reversed int str bool list tuple dict set frozenset isinstance "
    "ord repr any all divmod Exception ValueError TypeError KeyError IndexError LookupError ZeroDivisionError "
    "ArithmeticError OverflowError RuntimeError NotImplementedError AttributeError StopIteration".split())
CALLED = BUILT_IN & set(
    "len range enumerate zip min max sum abs sorted reversed set frozenset isinstance ord repr any all divmod".split())
METHODS = set(
    "append clear copy count endswith extend find get index insert isalnum isalpha isdigit islower isspace isupper "
    "items join keys ljust lower lstrip partition pop remove replace reverse rfind rjust rpartition rsplit rstrip "
    "setdefault split splitlines startswith strip update upper values zfill bit_length".split())
KEYWORDS = {"sorted": {"key", "reverse"}, "min": {"key", "default"}, "max": {"key", "default"}, "sum": {"start"},
            "enumerate": {"start"}, "zip": {"strict"}}
WALKED = {"zip", "enumerate", "reversed", "range"}
WALKED_METHODS = {"items", "keys", "values"}
WALKERS = {"list", "tuple", "dict", "sorted", "sum", "any", "all", "enumerate", "zip", "min", "max"}
KINDS = (str, int, list, dict, set, bytes, tuple)
TAKEN = {name for kind in KINDS for name in dir(kind)} - {"__init__"}
OWN_METHODS = METHODS | {"add", "discard"}
OWN_VALUES = set("count index title find get join lower upper split strip copy add".split())
WORDS = re.compile(
    r"\b(type|typing|typing_extensions|enum|Enum|IntEnum|StrEnum|Flag|IntFlag|Generic|Protocol|ABC|ABCMeta|"
    r"namedtuple|NamedTuple|TypedDict|TYPE_CHECKING|abstractmethod)\b|dataclass|overload|contextmanager")
PLAIN = re.compile(r"[A-Za-z][A-Za-z0-9_]*")
DUNDER = {"__init__", "__eq__", "__repr__", "__str__", "__len__"}


def text_faults(text):
    rows = text.split("\n")
    found = [f"L10 row {k} is long" for k, row in enumerate(rows, start=1) if len(row) > 120]
    if len(rows) > 401:
        found.append("L10 more than 400 rows")
    if [sign for sign in text if sign != "\n" and not " " <= sign <= "~"]:
        found.append("L14 a sign that is none of ours")
    return found + [f"L17 word {word.group()}" for word in WORDS.finditer(text)]


def is_plain(node, functions):
    """Whether a value at a file's top is written out."""
    if isinstance(node, (ast.List, ast.Tuple)):
        return all(is_plain(part, functions) for part in node.elts)
    if isinstance(node, ast.Dict):
        return all(is_plain(part, functions) for part in node.keys + node.values)
    if isinstance(node, ast.UnaryOp):
        return isinstance(node.op, ast.USub) and is_plain(node.operand, functions)
    return isinstance(node, ast.Constant) or (isinstance(node, ast.Name) and node.id in functions)


def value_faults(tree):
    """L3: plain values, and functions defined above."""
    found = []
    functions = []
    for node in tree.body:
        if isinstance(node, ast.FunctionDef):
            functions.append(node.name)
        elif isinstance(node, ast.Assign) and not is_plain(node.value, functions):
            found.append(f"L3 row {node.lineno}")
    return found


def top_faults(tree, package):
    """L2, L3, L15, L16."""
    found = value_faults(tree)
    bound = []
    for k, node in enumerate(tree.body):
        if isinstance(node, ast.ImportFrom):
            if node.level or not (node.module or "").startswith(package + "."):
                found.append(f"L2 row {node.lineno}")
            for name in node.names:
                bound.append(name.asname or name.name)
        elif isinstance(node, (ast.FunctionDef, ast.ClassDef)):
            bound.append(node.name)
        elif isinstance(node, ast.Assign) and isinstance(node.targets[0], ast.Name):
            bound.append(node.targets[0].id)
        elif not (k == 0 and isinstance(node, ast.Expr) and isinstance(node.value, ast.Constant)):
            found.append(f"L3 row {node.lineno}")
    return found + [f"L15 {name} bound twice" for name in set(bound) if bound.count(name) > 1]


def def_faults(node):
    found = []
    if node.end_lineno - node.lineno >= 40:
        found.append(f"L10 {node.name} is long")
    if node.decorator_list:
        found.append(f"L4 {node.name} has a decorator")
    if node.args.vararg or node.args.kwarg or node.args.kwonlyargs or node.args.posonlyargs:
        found.append(f"L4 {node.name} has a star")
    if node.returns or [arg for arg in node.args.args if arg.annotation]:
        found.append(f"L21 {node.name} has an annotation")
    return found


def class_faults(node):
    found = []
    if len(node.bases) > 1 or node.keywords or node.decorator_list:
        found.append(f"L5 {node.name}")
    for part in node.body:
        if not isinstance(part, (ast.FunctionDef, ast.Pass)):
            found.append(f"L5 {node.name}, row {part.lineno}")
    return found


def expression_faults(node):
    found = []
    if isinstance(node, ast.Constant) and isinstance(node.value, (float, complex, bytes)):
        found.append(f"L7 row {node.lineno}")
    if isinstance(node, ast.Constant) and isinstance(node.value, str) and "%" in node.value:
        found.append(f"L27 row {node.lineno}")
    if isinstance(node, ast.ListComp) and (len(node.generators) > 1 or len(node.generators[0].ifs) > 1):
        found.append(f"L7 row {node.lineno}")
    if isinstance(node, ast.FormattedValue) and not isinstance(node.value, ast.Name):
        found.append(f"L7 row {node.lineno}")
    if isinstance(node, ast.Compare) and [op for op in node.ops if isinstance(op, (ast.Is, ast.IsNot))]:
        if not isinstance(node.comparators[-1], ast.Constant):
            found.append(f"L20 row {node.lineno}")
    return found


def statement_faults(node):
    found = []
    if isinstance(node, ast.Assign) and len(node.targets) > 1:
        found.append(f"L6 row {node.lineno}")
    if isinstance(node, (ast.For, ast.While)) and node.orelse:
        found.append(f"L6 row {node.lineno}")
    if isinstance(node, ast.Try) and node.finalbody:
        found.append(f"L6 row {node.lineno}")
    if isinstance(node, ast.FunctionDef):
        # A text by itself is no call; the rules name it at a file's top alone.
        plain = [part for part in ast.walk(node) if isinstance(part, ast.Expr)]
        found += [f"L6 row {part.lineno}" for part in plain if not isinstance(part.value, ast.Call)]
    if isinstance(node, ast.ExceptHandler) and not node.type:
        found.append(f"L6 row {node.lineno}")
    if isinstance(node, ast.Call) and isinstance(node.func, ast.Name) and node.func.id in ("set", "frozenset"):
        found.append(f"L24 row {node.lineno}: look by eye")
    return found


def names_of(tree):
    """The names that a file binds, at its top or within its defs."""
    names = set()
    for node in ast.walk(tree):
        if isinstance(node, ast.alias):
            names.add(node.asname or node.name)
        elif isinstance(node, (ast.FunctionDef, ast.ClassDef)):
            names.add(node.name)
        elif isinstance(node, ast.arg):
            names.add(node.arg)
        elif isinstance(node, ast.Name) and isinstance(node.ctx, ast.Store):
            names.add(node.id)
        elif isinstance(node, ast.ExceptHandler) and node.name:
            names.add(node.name)
    return names


def name_faults(tree, values):
    names = names_of(tree)
    python = set(dir(__builtins__)) if not isinstance(__builtins__, dict) else set(__builtins__)
    found = [f"L12 {name}" for name in sorted(names) if not PLAIN.fullmatch(name) and name not in DUNDER]
    found += [f"L15 {name} is Python's own" for name in sorted(names & python)]
    for node in ast.walk(tree):
        if isinstance(node, ast.Name) and node.id not in names and node.id not in BUILT_IN:
            found.append(f"L8 {node.id}, row {node.lineno}")
        if isinstance(node, ast.Attribute) and node.attr not in METHODS | DUNDER | values:
            found.append(f"L25 {node.attr}, row {node.lineno}")
    return found


def is_walked(node):
    if not isinstance(node, ast.Call):
        return False
    if isinstance(node.func, ast.Name):
        return node.func.id in WALKED
    return isinstance(node.func, ast.Attribute) and node.func.attr in WALKED_METHODS


def walkers_of(node):
    """What is walked on the spot by this node."""
    if isinstance(node, (ast.For, ast.comprehension)):
        return [node.iter]
    if isinstance(node, ast.Call) and isinstance(node.func, ast.Name) and node.func.id in WALKERS:
        return node.args if node.func.id == "zip" else node.args[:1]
    if isinstance(node, ast.Call) and isinstance(node.func, ast.Attribute) and node.func.attr == "join":
        return node.args
    return []


def walk_faults(tree):
    """L23: what is to be walked on the spot."""
    fine = [id(part) for node in ast.walk(tree) for part in walkers_of(node)]
    return [f"L23 row {node.lineno}" for node in ast.walk(tree) if is_walked(node) and id(node) not in fine]


def call_faults(tree):
    """L22: Python's own names as they are called."""
    found = []
    fine = []
    for node in ast.walk(tree):
        if isinstance(node, ast.Call):
            fine.append(id(node.func))
            called = getattr(node.func, "id", None)
            fine += [id(word.value) for word in node.keywords if word.arg == "key"]
            for word in node.keywords:
                if called in BUILT_IN and word.arg not in KEYWORDS.get(called, ()):
                    found.append(f"L22 row {node.lineno}")
    for node in ast.walk(tree):
        if isinstance(node, ast.Name) and node.id in CALLED and id(node) not in fine:
            found.append(f"L22 {node.id}, row {node.lineno}")
    return found


def own_names(tree):
    """The names of the methods that a file's classes have, and of the values that are given to objects."""
    classes = [node for node in ast.walk(tree) if isinstance(node, ast.ClassDef)]
    methods = [part.name for node in classes for part in node.body if isinstance(part, ast.FunctionDef)]
    values = [node.attr for node in ast.walk(tree)
              if isinstance(node, ast.Attribute) and isinstance(node.ctx, ast.Store)]
    return set(methods) - DUNDER, set(values)


def own_faults(methods, values):
    """L18, L26, over the whole package."""
    found = [f"L18 {name} is a method and a value" for name in sorted(methods & values)]
    found += [f"L26 method {name}" for name in sorted(methods & TAKEN - OWN_METHODS)]
    return found + [f"L26 value {name}" for name in sorted(values & TAKEN - OWN_VALUES)]


def drawn_from(tree):
    return [node.module for node in tree.body if isinstance(node, ast.ImportFrom)]


def circle_faults(trees):
    """L16: files, by their full names, that draw from one another in whatever many steps."""
    found = []
    for name in sorted(trees):
        reached = set()
        left = drawn_from(trees[name])
        while left:
            other = left.pop()
            if other in trees and other not in reached:
                reached.add(other)
                left += drawn_from(trees[other])
        if name in reached:
            found.append(f"L16 {name} draws from itself")
    return found


def package_faults(texts, package):
    """All faults of a package; texts are its files' by their full names."""
    trees = {name: ast.parse(text) for name, text in texts.items()}
    methods = set().union(*[own_names(tree)[0] for tree in trees.values()])
    values = set().union(*[own_names(tree)[1] for tree in trees.values()])
    found = own_faults(methods, values) + circle_faults(trees)
    for name, text in texts.items():
        found += [f"{name}: {fault}" for fault in faults_of(text, package, methods | values)]
    return found


def faults_of(text, package, values):
    """A file's own faults; values are the names of the methods and values that the package's objects have."""
    tree = ast.parse(text)
    found = text_faults(text) + top_faults(tree, package) + name_faults(tree, values)
    found += walk_faults(tree) + call_faults(tree)
    for node in ast.walk(tree):
        kind = node.__class__.__name__
        if kind not in NODES:
            found.append(f"L6 or L7: {kind}")
        if isinstance(node, ast.FunctionDef):
            found += def_faults(node)
        if isinstance(node, ast.ClassDef):
            found += class_faults(node)
        found += expression_faults(node) + statement_faults(node)
    return found
