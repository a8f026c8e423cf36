"""Finds the places where a source file leaves the part of Python that the package keeps to.

Not every rule can be seen by reading one file: this looks at the plain ones.
"""

import ast
import builtins
import re

PACKAGE = "holmway"

ALLOWED_BUILTINS = set(
    "len range enumerate zip min max sum abs sorted reversed int str bool list tuple dict set frozenset isinstance "
    "ord repr any all divmod Exception ValueError TypeError KeyError IndexError LookupError ZeroDivisionError "
    "ArithmeticError OverflowError RuntimeError NotImplementedError AttributeError StopIteration".split()
)
ALLOWED_METHODS = set(
    "append clear copy count endswith extend find get index insert isalnum isalpha isdigit islower isspace isupper "
    "items join keys ljust lower lstrip partition pop remove replace reverse rfind rjust rpartition rsplit rstrip "
    "setdefault split splitlines startswith strip update upper values zfill bit_length".split()
)
ALLOWED_DUNDERS = {"__init__", "__eq__", "__repr__", "__str__", "__len__"}
NAMES_NOT_USED = set(
    "register mro elements open input version_info with_traceback add_note attrgetter breakpoint builtins compile "
    "copyright credits delattr dir eval exec exit gc getattr globals hasattr help id importlib license locals "
    "methodcaller os quit setattr super type vars sys".split()
)
WORDS_NOT_USED = re.compile(
    r"\b(type|typing|typing_extensions|enum|Enum|IntEnum|StrEnum|Flag|IntFlag|Generic|Protocol|ABC|ABCMeta|namedtuple"
    r"|NamedTuple|TypedDict|TYPE_CHECKING|abstractmethod)\b|dataclass|overload|contextmanager"
)
CHANGES = "append clear extend insert pop remove reverse setdefault update".split()
WALKED_AT_ONCE = "zip enumerate reversed range items keys values".split()
NODES = (
    "Module Import ImportFrom alias FunctionDef arguments arg Lambda ClassDef Assign AugAssign If While For Return "
    "Break Continue Pass Raise Try ExceptHandler Expr Constant Name Attribute Subscript Slice List Tuple Dict Set "
    "ListComp comprehension BinOp UnaryOp BoolOp Compare IfExp Call keyword JoinedStr FormattedValue Load Store "
    "Add Sub Mult FloorDiv Mod Pow LShift RShift BitOr BitXor BitAnd Invert Not USub UAdd And Or "
    "Eq NotEq Lt LtE Gt GtE Is IsNot In NotIn"
).split()


def text_faults(text):
    rows = text.split("\n")
    if len(rows) > 400:
        yield 400, "L10 file too long"
    for number, row in enumerate(rows, start=1):
        if len(row) > 120:
            yield number, "L10 row too long"
        if re.search(r"[^ -~]", row):
            yield number, "L14 sign"
        if WORDS_NOT_USED.search(row):
            yield number, "L17 word"


def name_fault(name):
    if name in NAMES_NOT_USED:
        return "L17 name"
    if not re.fullmatch(r"[A-Za-z][A-Za-z0-9_]*", name):
        return "L12 name"
    return None


def bound_names(node):
    if isinstance(node, ast.Name) and isinstance(node.ctx, ast.Store):
        return [node.id]
    if isinstance(node, ast.arg):
        return [node.arg]
    if isinstance(node, (ast.FunctionDef, ast.ClassDef)):
        return [node.name]
    return []


def import_faults(node):
    if isinstance(node, ast.Import):
        yield "L16 import"
    if isinstance(node, ast.ImportFrom):
        own = node.level == 0 and (node.module or "").split(".")[0] == PACKAGE
        if not own or node.module == PACKAGE or any(name.name == "*" for name in node.names):
            yield "L2 import"


def def_faults(node):
    if isinstance(node, ast.FunctionDef):
        if node.end_lineno - node.lineno + 1 > 40:
            yield "L10 function too long"
        if node.args.vararg or node.args.kwarg or node.args.kwonlyargs or node.args.posonlyargs:
            yield "L4 parameters"
    if isinstance(node, (ast.FunctionDef, ast.ClassDef)) and node.decorator_list:
        yield "L4 decorator"
    if isinstance(node, ast.ClassDef):
        if len(node.bases) > 1 or node.keywords:
            yield "L5 bases"
        if not all(isinstance(part, (ast.FunctionDef, ast.Pass)) for part in node.body):
            yield "L5 body"


def statement_faults(node):
    if isinstance(node, ast.Assign) and len(node.targets) != 1:
        yield "L6 targets"
    if isinstance(node, (ast.For, ast.While)) and node.orelse:
        yield "L6 else behind a loop"
    if isinstance(node, ast.Try) and node.finalbody:
        yield "L6 finally"
    if isinstance(node, ast.ExceptHandler) and (
        node.type is None or ast.unparse(node.type) in ("Exception", "TypeError")
    ):
        yield "L19 except"
    if isinstance(node, ast.ListComp) and (len(node.generators) != 1 or len(node.generators[0].ifs) > 1):
        yield "L7 comprehension"


def value_faults(node):
    if isinstance(node, ast.Constant) and isinstance(node.value, (float, complex, bytes)):
        yield "L7 value"
    if isinstance(node, ast.Constant) and isinstance(node.value, str) and "%" in node.value:
        yield "L27 sign in a text"
    if isinstance(node, ast.Compare) and any(isinstance(op, (ast.Is, ast.IsNot)) for op in node.ops):
        if not any(isinstance(side, ast.Constant) for side in [node.left] + node.comparators):
            yield "L20 is"
    if isinstance(node, ast.Name) and isinstance(node.ctx, ast.Load):
        if node.id in dir(builtins) and node.id not in ALLOWED_BUILTINS:
            yield "L8 name"


def name_faults(node):
    for name in bound_names(node):
        fault = name_fault(name)
        if fault and not (isinstance(node, ast.FunctionDef) and name in ALLOWED_DUNDERS):
            yield fault
        if name in dir(builtins) and name not in ALLOWED_DUNDERS:
            yield "L15 name"
    if isinstance(node, ast.Attribute) and name_fault(node.attr) and node.attr not in ALLOWED_DUNDERS:
        yield "L17 attribute"


def texts_by_themselves(tree):
    docstring = tree.body[:1]
    for node in ast.walk(tree):
        if isinstance(node, ast.Expr) and not isinstance(node.value, ast.Call) and node not in docstring:
            yield node.lineno, "L6 statement"


def set_faults(tree):
    """L24: a set stands beside in, == or !=, or straight within sorted or len."""
    held = []
    for node in ast.walk(tree):
        if isinstance(node, ast.Call) and ast.unparse(node.func) in ("sorted", "len") and not node.keywords:
            held.extend(node.args)
        if isinstance(node, ast.Compare):
            held.extend([node.left] + node.comparators)
    for node in held:
        if isinstance(node, ast.BinOp):
            held.extend([node.left, node.right])
    for node in ast.walk(tree):
        if isinstance(node, ast.Call) and ast.unparse(node.func) in ("set", "frozenset") and node not in held:
            yield node.lineno, "L24 set"


def imported_names(tree):
    return [name.asname or name.name for node in tree.body if isinstance(node, ast.ImportFrom) for name in node.names]


def classes_of(tree):
    return [node for node in ast.walk(tree) if isinstance(node, ast.ClassDef)]


def local_faults(tree):
    """L15: no parameter and no local is called like a class or an import of its file."""
    taken = imported_names(tree) + [node.name for node in classes_of(tree)]
    for node in ast.walk(tree):
        if not isinstance(node, ast.ClassDef) and any(name in taken for name in bound_names(node)):
            yield node.lineno, "L15 local"


def walk_faults(tree):
    """L23: what a loop walks is not changed in it, and what is walked at once is not kept."""
    for node in ast.walk(tree):
        if isinstance(node, ast.For):
            walked = ast.unparse(node.iter)
            for part in ast.walk(node):
                if isinstance(part, ast.Call) and isinstance(part.func, ast.Attribute):
                    if part.func.attr in CHANGES and ast.unparse(part.func.value) == walked:
                        yield part.lineno, "L23 change"
                if isinstance(part, ast.Subscript) and isinstance(part.ctx, ast.Store):
                    if ast.unparse(part.value) == walked:
                        yield part.lineno, "L23 change"
        if isinstance(node, (ast.Assign, ast.Return)) and isinstance(node.value, ast.Call):
            func = node.value.func
            if (func.attr if isinstance(func, ast.Attribute) else ast.unparse(func)) in WALKED_AT_ONCE:
                yield node.lineno, "L23 kept"


def error_faults(tree):
    """L19, held narrower: of Python's own errors only those that may be taken anywhere."""
    own = imported_names(tree) + [node.name for node in classes_of(tree)]
    for node in ast.walk(tree):
        if isinstance(node, ast.ExceptHandler) and node.type is not None:
            taken = node.type.elts if isinstance(node.type, ast.Tuple) else [node.type]
            for name in taken:
                if ast.unparse(name) not in own + ["KeyError", "ZeroDivisionError", "StopIteration"]:
                    yield node.lineno, "L19 except"
        if isinstance(node, ast.Raise) and not isinstance(node.exc, ast.Call):
            yield node.lineno, "L19 raise"


def faults(text, own_methods=()):
    found = list(text_faults(text))
    tree = ast.parse(text)
    for look in (texts_by_themselves, set_faults, local_faults, walk_faults, error_faults):
        found.extend(look(tree))
    for node in ast.walk(tree):
        line = getattr(node, "lineno", 0)
        kind = node.__class__.__name__
        if kind not in NODES:
            found.append((line, "L6 or L7 " + kind))
        for look in (import_faults, def_faults, statement_faults, value_faults, name_faults):
            found.extend((line, fault) for fault in look(node))
        if isinstance(node, ast.Call) and isinstance(node.func, ast.Attribute):
            name = node.func.attr
            if name not in ALLOWED_METHODS and name not in ALLOWED_DUNDERS and name not in own_methods:
                found.append((line, "L25 method"))
    return found


def methods_of(text):
    classes = classes_of(ast.parse(text))
    return [part.name for node in classes for part in node.body if isinstance(part, ast.FunctionDef)]


def values_of(text):
    """The names under which a value is given to an object."""
    nodes = ast.walk(ast.parse(text))
    return [node.attr for node in nodes if isinstance(node, ast.Attribute) and isinstance(node.ctx, ast.Store)]


def member_faults(texts):
    """L18 and L26, over the whole package, held narrower: no name is that of a method or value of Python's own."""
    methods = [name for text in texts.values() for name in methods_of(text) if name not in ALLOWED_DUNDERS]
    values = [name for text in texts.values() for name in values_of(text)]
    for name in methods + values:
        if name in methods and name in values:
            yield name, "L18 method and value"
        if any(hasattr(kind, name) for kind in (str, int, list, dict, set, bytes, tuple, ValueError)):
            yield name, "L26 name"


def draws_of(texts):
    """For each module the modules that it draws from, with the names that it draws."""
    found = {}
    for file, text in texts.items():
        rows = [node for node in ast.parse(text).body if isinstance(node, ast.ImportFrom)]
        found[file] = [(row.module.split(".")[-1] + ".py", name.name) for row in rows for name in row.names]
    return found


def draw_faults(texts):
    """L16: each name from the very file that defines it, and no two files from one another in whatever many steps."""
    draws = draws_of(texts)
    for file, drawn in draws.items():
        for source, name in drawn:
            if name not in [part for node in ast.parse(texts[source]).body for part in bound_names(node)]:
                yield file, "L16 not defined there"
        reached = [source for source, name in drawn]
        for source in reached:
            reached.extend(further for further, name in draws[source] if further not in reached)
        if file in reached:
            yield file, "L16 draws from itself"
