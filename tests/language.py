"""Faults of a package file against part of the language rules.

Looked at are L2 to L8, L10, L12, L14, L15, L17, L20, L21, L24, L25 and L27, each in its plainest cases. Not looked
at are L9, L11, L13, L16's circles, L18, L19, L22, L23, L26 and L28: these are still to be read by eye.
"""

import ast
import re

NODES = {
    "Module", "Expr", "Constant", "ImportFrom", "alias", "FunctionDef", "arguments", "arg", "ClassDef", "Lambda",
    "Assign", "AugAssign", "If", "While", "For", "Return", "Break", "Continue", "Pass", "Raise", "Try",
    "ExceptHandler", "Name", "Load", "Store", "List", "Tuple", "Dict", "BinOp", "UnaryOp", "BoolOp", "Compare",
    "IfExp", "Call", "keyword", "Attribute", "Subscript", "Slice", "ListComp", "comprehension", "JoinedStr",
    "FormattedValue", "Add", "Sub", "Mult", "FloorDiv", "Mod", "Pow", "BitAnd", "BitOr", "BitXor", "LShift",
    "RShift", "Invert", "USub", "Not", "And", "Or", "Eq", "NotEq", "Lt", "LtE", "Gt", "GtE", "Is", "IsNot", "In",
    "NotIn",
}
BUILT_IN = set(
    "len range enumerate zip min max sum abs sorted reversed int str bool list tuple dict set frozenset isinstance "
    "ord repr any all divmod Exception ValueError TypeError KeyError IndexError LookupError ZeroDivisionError "
    "ArithmeticError OverflowError RuntimeError NotImplementedError AttributeError StopIteration".split())
METHODS = set(
    "append clear copy count endswith extend find get index insert isalnum isalpha isdigit islower isspace isupper "
    "items join keys ljust lower lstrip partition pop remove replace reverse rfind rjust rpartition rsplit rstrip "
    "setdefault split splitlines startswith strip update upper values zfill bit_length __init__".split())
WORDS = re.compile(
    r"\b(type|typing|typing_extensions|enum|Enum|IntEnum|StrEnum|Flag|IntFlag|Generic|Protocol|ABC|ABCMeta|"
    r"namedtuple|NamedTuple|TypedDict|TYPE_CHECKING|abstractmethod)\b|dataclass|overload|contextmanager")
PLAIN = re.compile(r"[A-Za-z][A-Za-z0-9_]*")
DUNDER = {"__init__", "__eq__", "__repr__", "__str__", "__len__"}


def text_faults(text):
    rows = text.split("\n")
    found = [f"L10 row {k} is long" for k, row in enumerate(rows, start=1) if len(row) > 120]
    if len(rows) > 401:
        found.append("L10 more than 400 rows")
    if [sign for sign in text if sign != "\n" and not " " <= sign <= "~"]:
        found.append("L14 a sign that is none of ours")
    return found + [f"L17 word {word.group()}" for word in WORDS.finditer(text)]


def top_faults(tree, package):
    """L2, L3, L15, L16."""
    found = []
    bound = []
    for k, node in enumerate(tree.body):
        if isinstance(node, ast.ImportFrom):
            if node.level or not (node.module or "").startswith(package + "."):
                found.append(f"L2 row {node.lineno}")
            for name in node.names:
                bound.append(name.asname or name.name)
        elif isinstance(node, (ast.FunctionDef, ast.ClassDef)):
            bound.append(node.name)
        elif isinstance(node, ast.Assign) and isinstance(node.targets[0], ast.Name):
            bound.append(node.targets[0].id)
        elif not (k == 0 and isinstance(node, ast.Expr) and isinstance(node.value, ast.Constant)):
            found.append(f"L3 row {node.lineno}")
    return found + [f"L15 {name} bound twice" for name in set(bound) if bound.count(name) > 1]


def def_faults(node):
    found = []
    if node.end_lineno - node.lineno >= 40:
        found.append(f"L10 {node.name} is long")
    if node.decorator_list:
        found.append(f"L4 {node.name} has a decorator")
    if node.args.vararg or node.args.kwarg or node.args.kwonlyargs or node.args.posonlyargs:
        found.append(f"L4 {node.name} has a star")
    if node.returns or [arg for arg in node.args.args if arg.annotation]:
        found.append(f"L21 {node.name} has an annotation")
    return found


def class_faults(node):
    found = []
    if len(node.bases) > 1 or node.keywords or node.decorator_list:
        found.append(f"L5 {node.name}")
    for part in node.body:
        if not isinstance(part, (ast.FunctionDef, ast.Pass)):
            found.append(f"L5 {node.name}, row {part.lineno}")
    return found


def expression_faults(node):
    found = []
    if isinstance(node, ast.Constant) and isinstance(node.value, (float, complex, bytes)):
        found.append(f"L7 row {node.lineno}")
    if isinstance(node, ast.Constant) and isinstance(node.value, str) and "%" in node.value:
        found.append(f"L27 row {node.lineno}")
    if isinstance(node, ast.ListComp) and (len(node.generators) > 1 or len(node.generators[0].ifs) > 1):
        found.append(f"L7 row {node.lineno}")
    if isinstance(node, ast.FormattedValue) and not isinstance(node.value, ast.Name):
        found.append(f"L7 row {node.lineno}")
    if isinstance(node, ast.Compare) and [op for op in node.ops if isinstance(op, (ast.Is, ast.IsNot))]:
        if not isinstance(node.comparators[-1], ast.Constant):
            found.append(f"L20 row {node.lineno}")
    return found


def statement_faults(node):
    found = []
    if isinstance(node, ast.Assign) and len(node.targets) > 1:
        found.append(f"L6 row {node.lineno}")
    if isinstance(node, (ast.For, ast.While)) and node.orelse:
        found.append(f"L6 row {node.lineno}")
    if isinstance(node, ast.Try) and node.finalbody:
        found.append(f"L6 row {node.lineno}")
    if isinstance(node, ast.ExceptHandler) and not node.type:
        found.append(f"L6 row {node.lineno}")
    if isinstance(node, ast.Call) and isinstance(node.func, ast.Name) and node.func.id in ("set", "frozenset"):
        found.append(f"L24 row {node.lineno}: look by eye")
    return found


def names_of(tree):
    """The names that a file binds, at its top or within its defs."""
    names = set()
    for node in ast.walk(tree):
        if isinstance(node, ast.alias):
            names.add(node.asname or node.name)
        elif isinstance(node, (ast.FunctionDef, ast.ClassDef)):
            names.add(node.name)
        elif isinstance(node, ast.arg):
            names.add(node.arg)
        elif isinstance(node, ast.Name) and isinstance(node.ctx, ast.Store):
            names.add(node.id)
        elif isinstance(node, ast.ExceptHandler) and node.name:
            names.add(node.name)
    return names


def name_faults(tree, values):
    names = names_of(tree)
    python = set(dir(__builtins__)) if not isinstance(__builtins__, dict) else set(__builtins__)
    found = [f"L12 {name}" for name in sorted(names) if not PLAIN.fullmatch(name) and name not in DUNDER]
    found += [f"L15 {name} is Python's own" for name in sorted(names & python)]
    for node in ast.walk(tree):
        if isinstance(node, ast.Name) and node.id not in names and node.id not in BUILT_IN:
            found.append(f"L8 {node.id}, row {node.lineno}")
        if isinstance(node, ast.Attribute) and node.attr not in METHODS and node.attr not in values:
            found.append(f"L25 {node.attr}, row {node.lineno}")
    return found


def faults_of(text, package, values):
    """All faults of a file; values are the names of the values that objects of the package have."""
    tree = ast.parse(text)
    found = text_faults(text) + top_faults(tree, package) + name_faults(tree, values)
    for node in ast.walk(tree):
        kind = node.__class__.__name__
        if kind not in NODES:
            found.append(f"L6 or L7: {kind}")
        if isinstance(node, ast.FunctionDef):
            found += def_faults(node)
        if isinstance(node, ast.ClassDef):
            found += class_faults(node)
        found += expression_faults(node) + statement_faults(node)
    return found
