"""Looks for code outside ../shared/LANGUAGE.md, as far as one file's tree shows it."""

import ast
import builtins
import re

PACKAGE = "crowdroads"
CALLED = (
    "len range enumerate zip min max sum abs sorted reversed int str bool list tuple dict set frozenset "
    "isinstance ord repr any all divmod Exception ValueError TypeError KeyError IndexError LookupError "
    "ZeroDivisionError ArithmeticError OverflowError RuntimeError NotImplementedError AttributeError StopIteration"
).split()
METHODS = (
    "append clear copy count endswith extend find get index insert isalnum isalpha isdigit islower isspace "
    "isupper items join keys ljust lower lstrip partition pop remove replace reverse rfind rjust rpartition "
    "rsplit rstrip setdefault split splitlines startswith strip update upper values zfill bit_length __init__"
).split()
WORDS = (
    "type typing typing_extensions enum Enum IntEnum StrEnum Flag IntFlag Generic Protocol ABC ABCMeta "
    "namedtuple NamedTuple TypedDict TYPE_CHECKING abstractmethod"
).split()
UNUSED = "register mro elements open input version_info with_traceback add_note format format_map".split()
WALKED = "zip enumerate reversed range items keys values".split()
WALKERS = "list tuple dict sorted sum any all enumerate zip min max join".split()
DUNDERS = ("__init__", "__eq__", "__repr__", "__str__", "__len__")
NODES = (
    "Module Import ImportFrom alias FunctionDef ClassDef Lambda arguments arg Return Assign AugAssign For While If "
    "Raise Try ExceptHandler Expr Pass Break Continue BoolOp And Or BinOp Add Sub Mult FloorDiv Mod Pow LShift "
    "RShift BitOr BitXor BitAnd UnaryOp Invert Not UAdd USub IfExp Dict Set List Tuple ListComp comprehension "
    "Compare Eq NotEq Lt LtE Gt GtE Is IsNot In NotIn Call keyword FormattedValue JoinedStr Constant Attribute "
    "Subscript Slice Name Load Store"
).split()


def faults_of(text):
    """Pairs (rule, line) of what is outside the rules in a file's text."""
    tree = ast.parse(text)
    found = faults_of_text(text) + faults_of_top(tree) + faults_of_locals(tree) + faults_of_walks(tree)
    for node in ast.walk(tree):
        found += [(rule, getattr(node, "lineno", 0)) for rule in faults_of_node(node)]
    return sorted(found + faults_of_names(tree))


def faults_of_text(text):
    found = []
    rows = text.split("\n")
    if len(rows) - 1 > 400:
        found.append(("L10", 400))
    for line, row in enumerate(rows, start=1):
        if len(row) > 120:
            found.append(("L10", line))
        if any(not " " <= sign <= "~" for sign in row):
            found.append(("L14", line))
        if set(re.findall(r"\w+", row)) & set(WORDS) or re.search("dataclass|overload|contextmanager", row):
            found.append(("L17", line))
    return found


def faults_of_top(tree):
    found = []
    bound = []
    for place, node in enumerate(tree.body):
        names = []
        if isinstance(node, (ast.FunctionDef, ast.ClassDef)):
            names = [node.name]
        elif isinstance(node, ast.ImportFrom):
            names = [alias.asname or alias.name for alias in node.names]
        elif isinstance(node, ast.Assign) and is_plain(node.value):
            names = [target.id for target in node.targets if isinstance(target, ast.Name)]
        elif not (place == 0 and isinstance(node, ast.Expr) and isinstance(node.value, ast.Constant)):
            found.append(("L3", node.lineno))
        found += [("L15", node.lineno) for name in names if name in bound]
        bound += names
    return found


def is_plain(node):
    if isinstance(node, (ast.List, ast.Tuple)):
        return all(is_plain(part) for part in node.elts)
    if isinstance(node, ast.Dict):
        return all(is_plain(part) for part in node.keys + node.values)
    if isinstance(node, ast.UnaryOp):
        return is_plain(node.operand)
    return isinstance(node, (ast.Constant, ast.Name))


def faults_of_node(node):
    found = []
    if type(node).__name__ not in NODES:
        found.append("L6")
    if isinstance(node, ast.Import):
        found.append("L16")
    if isinstance(node, ast.ImportFrom):
        if node.level or not (node.module or "").startswith(PACKAGE + ".") or node.names[0].name == "*":
            found.append("L2")
    if isinstance(node, (ast.FunctionDef, ast.Lambda)):
        found += faults_of_def(node)
    if isinstance(node, ast.ClassDef):
        found += faults_of_class(node)
    if isinstance(node, ast.Assign) and (len(node.targets) > 1 or isinstance(node.targets[0], ast.Tuple)):
        found.append("L6")
    if isinstance(node, (ast.For, ast.While)) and node.orelse:
        found.append("L6")
    if isinstance(node, ast.Try) and node.finalbody:
        found.append("L6")
    if isinstance(node, ast.ListComp) and (len(node.generators) > 1 or len(node.generators[0].ifs) > 1):
        found.append("L7")
    if isinstance(node, ast.Constant) and isinstance(node.value, (float, complex, bytes)):
        found.append("L7")
    if isinstance(node, ast.FormattedValue) and not isinstance(node.value, ast.Name):
        found.append("L7")
    if isinstance(node, ast.ExceptHandler) and caught(node) & {"", "Exception", "TypeError"}:
        found.append("L19")
    if isinstance(node, ast.Compare) and any(isinstance(sign, (ast.Is, ast.IsNot)) for sign in node.ops):
        if not all(is_single(thing) for thing in node.comparators):
            found.append("L20")
    if isinstance(node, ast.Constant) and isinstance(node.value, str) and "%" in node.value:
        found.append("L27")
    return found


def caught(handler):
    if isinstance(handler.type, ast.Tuple):
        return {getattr(part, "id", "") for part in handler.type.elts}
    return {getattr(handler.type, "id", "")}


def is_single(node):
    return isinstance(node, ast.Constant) and node.value in (None, True, False)


def faults_of_def(node):
    found = []
    taken = node.args
    if taken.vararg or taken.kwarg or taken.kwonlyargs or taken.posonlyargs:
        found.append("L4")
    if not all(is_plain(value) for value in taken.defaults):
        found.append("L4")
    if isinstance(node, ast.FunctionDef):
        if node.decorator_list:
            found.append("L4")
        if node.end_lineno - node.lineno + 1 > 40:
            found.append("L10")
        if node.returns or any(part.annotation for part in taken.args):
            found.append("L21")
    return found


def faults_of_class(node):
    found = []
    if len(node.bases) > 1 or node.keywords or node.decorator_list:
        found.append("L5")
    for place, part in enumerate(node.body):
        remark = place == 0 and isinstance(part, ast.Expr) and isinstance(part.value, ast.Constant)
        if not (remark or isinstance(part, (ast.FunctionDef, ast.Pass))):
            found.append("L5")
    return found


def bound_names(tree):
    """Pairs (name, line) of all that a file binds."""
    found = []
    for node in ast.walk(tree):
        if isinstance(node, (ast.FunctionDef, ast.ClassDef)):
            found.append((node.name, node.lineno))
        if isinstance(node, ast.arg):
            found.append((node.arg, node.lineno))
        if isinstance(node, ast.Name) and isinstance(node.ctx, ast.Store):
            found.append((node.id, node.lineno))
        if isinstance(node, ast.ExceptHandler) and node.name:
            found.append((node.name, node.lineno))
        if isinstance(node, ast.ImportFrom):
            found += [(alias.asname or alias.name, node.lineno) for alias in node.names]
    return found


def faults_of_names(tree):
    found = []
    bound = bound_names(tree)
    methods = [
        part.name for node in ast.walk(tree) if isinstance(node, ast.ClassDef)
        for part in node.body if isinstance(part, ast.FunctionDef)
    ]
    for name, line in bound:
        if not re.fullmatch("[A-Za-z][A-Za-z0-9_]*", name) and not (name in DUNDERS and name in methods):
            found.append(("L12", line))
        if name in dir(builtins) and name not in methods or name in UNUSED:
            found.append(("L15", line))
    known = [name for name, line in bound] + CALLED
    for node in ast.walk(tree):
        if isinstance(node, ast.Name) and node.id not in known:
            found.append(("L8", node.lineno))
        if isinstance(node, ast.Attribute) and node.attr in UNUSED:
            found.append(("L17", node.lineno))
        if isinstance(node, ast.Call) and isinstance(node.func, ast.Attribute):
            if node.func.attr in dir_of_values() and node.func.attr not in METHODS:
                found.append(("L25", node.lineno))
    return found


def faults_of_locals(tree):
    """Parameters and locals that are called like a class or an import of their file."""
    taken = [node.name for node in tree.body if isinstance(node, ast.ClassDef)]
    for node in tree.body:
        if isinstance(node, ast.ImportFrom):
            taken += [alias.asname or alias.name for alias in node.names]
    found = []
    for node in ast.walk(tree):
        if isinstance(node, ast.arg) and node.arg in taken:
            found.append(("L15", node.lineno))
        if isinstance(node, ast.Name) and isinstance(node.ctx, ast.Store) and node.id in taken:
            found.append(("L15", node.lineno))
    return found


def faults_of_walks(tree):
    """Walks that are kept in the place of being walked on the spot."""
    on_the_spot = []
    for node in ast.walk(tree):
        if isinstance(node, (ast.For, ast.comprehension)):
            on_the_spot.append(node.iter)
        if isinstance(node, ast.Call) and called_name(node) in WALKERS:
            on_the_spot += node.args
    calls = [node for node in ast.walk(tree) if isinstance(node, ast.Call) and called_name(node) in WALKED]
    return [("L23", node.lineno) for node in calls if node not in on_the_spot]


def called_name(node):
    return getattr(node.func, "id", getattr(node.func, "attr", ""))


def dir_of_values():
    return [name for kind in (str, int, list, tuple, dict, set, bytes) for name in dir(kind)]
