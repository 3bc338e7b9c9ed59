"""Tells where a file leaves the part of Python that ../shared/LANGUAGE.md allows.

Not every row of every rule can be seen here; those that can are told by the rule's number.
"""

import ast
import builtins
import re

STATEMENTS = (
    ast.FunctionDef, ast.ClassDef, ast.Return, ast.Assign, ast.AugAssign, ast.For, ast.While, ast.If, ast.Raise,
    ast.Try, ast.ImportFrom, ast.Expr, ast.Pass, ast.Break, ast.Continue,
)
EXPRESSIONS = (
    ast.BoolOp, ast.BinOp, ast.UnaryOp, ast.Lambda, ast.IfExp, ast.Dict, ast.Set, ast.ListComp, ast.Compare, ast.Call,
    ast.JoinedStr, ast.FormattedValue, ast.Constant, ast.Attribute, ast.Subscript, ast.Name, ast.List, ast.Tuple,
    ast.Slice,
)
FUNCTIONS = set(
    "len range enumerate zip min max sum abs sorted reversed int str bool list tuple dict set isinstance ord repr "
    "any all divmod frozenset".split()
)
ERRORS = set(
    "Exception ValueError TypeError KeyError IndexError LookupError ZeroDivisionError ArithmeticError OverflowError "
    "RuntimeError NotImplementedError AttributeError StopIteration".split()
)
METHODS = set(
    "append clear copy count endswith extend find get index insert isalnum isalpha isdigit islower isspace isupper "
    "items join keys ljust lower lstrip partition pop remove replace reverse rfind rjust rpartition rsplit rstrip "
    "setdefault split splitlines startswith strip update upper values zfill bit_length".split()
)
DUNDERS = ("__init__", "__eq__", "__repr__", "__str__", "__len__")
WALKED = ("zip", "enumerate", "reversed", "range")
CHANGES = ("append", "clear", "extend", "insert", "pop", "remove", "reverse", "setdefault", "update")
WALKERS = ("list", "tuple", "dict", "sorted", "sum", "any", "all", "enumerate", "zip", "min", "max")
UNUSED_NAMES = set(
    "register mro elements open input version_info with_traceback add_note attrgetter breakpoint builtins compile "
    "copyright credits delattr dir eval exec exit gc getattr globals hasattr help id importlib license locals "
    "methodcaller os quit setattr super vars sys format format_map".split()
)
UNUSED_WORDS = (
    r"\b(type|typing|typing_extensions|enum|Enum|IntEnum|StrEnum|Flag|IntFlag|Generic|Protocol|ABC|ABCMeta|namedtuple"
    r"|NamedTuple|TypedDict|TYPE_CHECKING|abstractmethod)\b|dataclass|overload|contextmanager"
)


def faults(source, package, methods=()):
    """A list of (rule, line) for a file's text; `methods` are those of the package's classes in other files."""
    tree = ast.parse(source)
    found = faults_of_text(source)
    found += faults_of_top(tree, package)
    own = own_names(tree)
    parents = {child: node for node in ast.walk(tree) for child in ast.iter_child_nodes(node)}
    for node in ast.walk(tree):
        known = own | set(methods) if isinstance(node, ast.Attribute) else own
        found += [(rule, node.lineno) for rule in faults_of_node(node, parents, known)]
    found += faults_of_locals(tree)
    found += faults_of_loops(tree)
    return found


def faults_of_locals(tree):
    """Parameters and locals that are called like a class or an import of the file."""
    taken = set()
    for node in tree.body:
        if isinstance(node, (ast.ClassDef, ast.ImportFrom)):
            taken.update(names_bound_by(node))
    found = []
    for node in ast.walk(tree):
        if isinstance(node, ast.arg) and node.arg in taken:
            found.append(("L15", node.lineno))
        if isinstance(node, ast.Name) and isinstance(node.ctx, ast.Store) and node.id in taken:
            found.append(("L15", node.lineno))
    return found


def faults_of_loops(tree):
    """Changes, within a loop, of what it walks."""
    found = []
    for loop in ast.walk(tree):
        if isinstance(loop, ast.For):
            walked = [ast.unparse(node) for node in walked_by(loop.iter)]
            within_loop = [node for statement in loop.body for node in ast.walk(statement)]
            found += [("L23", node.lineno) for node in within_loop if changed_by(node) in walked]
    return found


def walked_by(node):
    if not isinstance(node, ast.Call):
        return [node]
    if isinstance(node.func, ast.Attribute):
        return [node.func.value]
    if node.func.id in WALKED:
        return [inner for given in node.args for inner in walked_by(given)]
    return []


def changed_by(node):
    if isinstance(node, ast.Call) and isinstance(node.func, ast.Attribute) and node.func.attr in CHANGES:
        return ast.unparse(node.func.value)
    if isinstance(node, ast.Subscript) and not isinstance(node.ctx, ast.Load):
        return ast.unparse(node.value)
    return ""


def faults_of_text(source):
    rows = source.split("\n")
    found = [("L10", len(rows))] if len(rows) > 401 else []
    for number, row in enumerate(rows, start=1):
        if len(row) > 120:
            found.append(("L10", number))
        if re.search(r"[^ -~]", row):
            found.append(("L14", number))
        if re.search(UNUSED_WORDS, row):
            found.append(("L17", number))
    return found


def faults_of_top(tree, package):
    found = []
    bound = {}
    for place, node in enumerate(tree.body):
        if isinstance(node, ast.ImportFrom):
            path = (node.module or "").split(".")
            if node.level or len(path) < 2 or path[0] != package or any(name.name == "*" for name in node.names):
                found.append(("L2", node.lineno))
        elif isinstance(node, ast.Import):
            found.append(("L2", node.lineno))
        elif isinstance(node, ast.Expr):
            if place or not isinstance(node.value, ast.Constant) or not isinstance(node.value.value, str):
                found.append(("L3", node.lineno))
        elif not isinstance(node, (ast.FunctionDef, ast.ClassDef, ast.Assign)):
            found.append(("L3", node.lineno))
        for name in names_bound_by(node):
            if name in bound:
                found.append(("L15", node.lineno))
            bound[name] = True
    return found


def names_bound_by(node):
    if isinstance(node, (ast.FunctionDef, ast.ClassDef)):
        return [node.name]
    if isinstance(node, ast.ImportFrom):
        return [name.asname or name.name for name in node.names]
    if isinstance(node, ast.Assign):
        return [target.id for target in node.targets if isinstance(target, ast.Name)]
    return []


def own_names(tree):
    names = {name for node in tree.body for name in names_bound_by(node)}
    for node in ast.walk(tree):
        if isinstance(node, ast.Name) and not isinstance(node.ctx, ast.Load):
            names.add(node.id)
        elif isinstance(node, ast.arg):
            names.add(node.arg)
        elif isinstance(node, ast.FunctionDef):
            names.add(node.name)
        elif isinstance(node, ast.ExceptHandler) and node.name:
            names.add(node.name)
    return names


def faults_of_node(node, parents, own):
    if isinstance(node, ast.stmt):
        return faults_of_statement(node, parents)
    if isinstance(node, ast.expr):
        return faults_of_expression(node, parents, own)
    if isinstance(node, ast.arg):
        return faults_of_word(node.arg) + (["L21"] if node.annotation else [])
    if isinstance(node, ast.ExceptHandler):
        return ["L6"] if node.type is None else faults_of_handled(node.type)
    return []


def faults_of_handled(kind):
    names = kind.elts if isinstance(kind, ast.Tuple) else [kind]
    return ["L19" for name in names if not isinstance(name, ast.Name) or name.id in ("Exception", "TypeError")]


def faults_of_statement(node, parents):
    if not isinstance(node, STATEMENTS):
        return ["L6"]
    found = []
    if isinstance(node, ast.FunctionDef):
        found += faults_of_function(node)
    elif isinstance(node, ast.ClassDef):
        found += faults_of_class(node, parents)
    elif isinstance(node, ast.Assign) and len(node.targets) > 1:
        found.append("L6")
    elif isinstance(node, (ast.For, ast.While)) and node.orelse:
        found.append("L6")
    elif isinstance(node, ast.Try) and (node.finalbody or not node.handlers):
        found.append("L6")
    elif isinstance(node, ast.Raise) and not isinstance(node.exc, ast.Call):
        found.append("L19")
    elif isinstance(node, ast.ImportFrom) and not isinstance(parents[node], ast.Module):
        found.append("L2")
    elif isinstance(node, ast.Expr) and not isinstance(parents[node], ast.Module):
        found += [] if isinstance(node.value, ast.Call) else ["L6"]
    return found


def faults_of_function(node):
    given = node.args
    found = [] if node.name in DUNDERS else faults_of_word(node.name)
    if node.decorator_list or given.vararg or given.kwarg or given.kwonlyargs or given.posonlyargs:
        found.append("L4")
    if node.end_lineno - node.lineno + 1 > 40:
        found.append("L10")
    if node.returns:
        found.append("L21")
    return found


def faults_of_class(node, parents):
    found = faults_of_word(node.name)
    if not isinstance(parents[node], ast.Module):
        found.append("L15")
    if node.decorator_list or node.keywords or len(node.bases) > 1:
        found.append("L5")
    if not all(isinstance(part, (ast.FunctionDef, ast.Pass)) for part in node.body):
        found.append("L5")
    return found


def faults_of_word(word):
    found = [] if re.fullmatch(r"[A-Za-z][A-Za-z0-9_]*", word) else ["L12"]
    if word in UNUSED_NAMES:
        found.append("L17")
    elif hasattr(builtins, word):
        found.append("L15")
    return found


def faults_of_expression(node, parents, own):
    if not isinstance(node, EXPRESSIONS):
        return ["L7"]
    if isinstance(node, ast.Name):
        return faults_of_name(node, parents, own)
    if isinstance(node, ast.Attribute):
        return faults_of_attribute(node, parents, own)
    if isinstance(node, ast.Call):
        return faults_of_call(node, parents)
    if isinstance(node, ast.Constant):
        return faults_of_constant(node)
    if isinstance(node, ast.BinOp) and isinstance(node.op, (ast.Div, ast.MatMult)):
        return ["L7"]
    if isinstance(node, ast.BinOp) and isinstance(node.op, ast.Pow) and not isinstance(node.right, ast.Constant):
        return ["L27"]
    if isinstance(node, ast.Compare) and any(isinstance(op, (ast.Is, ast.IsNot)) for op in node.ops):
        return [] if isinstance(node.comparators[0], ast.Constant) else ["L20"]
    if isinstance(node, ast.FormattedValue):
        return [] if isinstance(node.value, ast.Name) and node.format_spec is None else ["L7"]
    if isinstance(node, ast.ListComp):
        return ["L7"] if len(node.generators) > 1 or len(node.generators[0].ifs) > 1 else []
    if isinstance(node, ast.Set):
        return ["L24"]
    return []


def faults_of_constant(node):
    if isinstance(node.value, (float, complex, bytes)) or node.value is ...:
        return ["L7"]
    return ["L27"] if isinstance(node.value, str) and "%" in node.value else []


def faults_of_name(node, parents, own):
    if not isinstance(node.ctx, ast.Load):
        return faults_of_word(node.id)
    if node.id in own or node.id in ERRORS:
        return []
    if node.id not in FUNCTIONS:
        return ["L8"]
    parent = parents[node]
    called = isinstance(parent, ast.Call) and parent.func is node
    beside = isinstance(parent, (ast.keyword, ast.Tuple)) or within(parent, "isinstance")
    return [] if called or beside else ["L22"]


def faults_of_attribute(node, parents, own):
    if node.attr.startswith("_") and node.attr not in DUNDERS:
        return ["L8"]
    if node.attr in UNUSED_NAMES:
        return ["L17"]
    parent = parents[node]
    called = isinstance(parent, ast.Call) and parent.func is node
    if called and node.attr not in METHODS and node.attr not in own and node.attr not in DUNDERS:
        return ["L25"]
    if not called and node.attr in METHODS and not isinstance(parent, ast.keyword):
        return ["L25"]
    return []


def faults_of_call(node, parents):
    found = []
    if any(isinstance(given, ast.Starred) for given in node.args) or any(key.arg is None for key in node.keywords):
        found.append("L7")
    name = node.func.id if isinstance(node.func, ast.Name) else ""
    method = node.func.attr if isinstance(node.func, ast.Attribute) else ""
    parent = parents[node]
    if name in WALKED or method in ("items", "keys", "values"):
        walked = isinstance(parent, (ast.For, ast.comprehension)) and parent.iter is node
        handed = isinstance(parent, ast.Call) and any(within(parent, walker) for walker in WALKERS)
        found += [] if walked or handed else ["L23"]
    if name in ("set", "frozenset"):
        beside = isinstance(parent, (ast.Compare, ast.BinOp)) or within(parent, "sorted") or within(parent, "len")
        found += [] if beside else ["L24"]
    return found


def within(node, name):
    return isinstance(node, ast.Call) and isinstance(node.func, ast.Name) and node.func.id == name
