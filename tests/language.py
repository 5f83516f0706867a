"""Finds what breaks LANGUAGE.md in a package's files, as far as it can be seen without running them.

It is a part of the rules, no proof that all are kept. Seen in part: L3, L4, L15, L18, L19, L22, L23, L24, L25, L26.
Stricter than L6, L7, L21, L24 and L28: refused altogether are finally, bytes, annotations, sets that are kept, and
methods with two underscores but __init__.
"""

import ast
import builtins
import re

PACKAGE = "manypurses"
BUILTINS = set(
    "len range enumerate zip min max sum abs sorted reversed int str bool bytes list tuple dict set frozenset"
    " isinstance ord repr any all divmod Exception ValueError TypeError KeyError IndexError LookupError"
    " ZeroDivisionError ArithmeticError OverflowError RuntimeError NotImplementedError AttributeError"
    " StopIteration".split())
METHODS = set(
    "append clear copy count endswith extend find get index insert isalnum isalpha isdigit islower isspace isupper"
    " items join keys ljust lower lstrip partition pop remove replace reverse rfind rjust rpartition rsplit rstrip"
    " setdefault split splitlines startswith strip update upper values zfill bit_length title capitalize swapcase"
    " casefold center expandtabs removeprefix removesuffix rindex isascii isdecimal isnumeric istitle isidentifier"
    " isprintable encode decode hex fromhex to_bytes from_bytes translate maketrans sort add discard".split())
DUNDERS = {"__init__", "__eq__", "__repr__", "__str__", "__len__"}
NEVER = {"register", "mro", "elements", "open", "input", "version_info", "with_traceback", "add_note",
         "format", "format_map", "f_back", "tb_next", "co_names"}
NO_NAMES = set(
    "attrgetter breakpoint builtins compile copyright credits delattr dir eval exec exit gc getattr globals hasattr"
    " help id importlib license locals methodcaller os quit setattr super type vars sys chr".split())
WORDS = re.compile(
    r"\b(?:type|typing|typing_extensions|enum|Enum|IntEnum|StrEnum|Flag|IntFlag|Generic|Protocol|ABC|ABCMeta"
    r"|namedtuple|NamedTuple|TypedDict|TYPE_CHECKING|abstractmethod)\b|dataclass|overload|contextmanager")
FILE = re.compile(r"(?:[a-z][a-z0-9_]*|__init__|__main__)\.py")
NO_FILE = re.compile(r"law_.*|tests?|testing|test_.*|site|conftest|sitecustomize|usercustomize")
ALLOWED = (
    ast.Module, ast.FunctionDef, ast.ClassDef, ast.Return, ast.Delete, ast.Assign, ast.AugAssign, ast.For, ast.While,
    ast.If, ast.Raise, ast.Try, ast.Assert, ast.ImportFrom, ast.Expr, ast.Pass, ast.Break, ast.Continue,
    ast.ExceptHandler, ast.BoolOp, ast.BinOp, ast.UnaryOp, ast.Lambda, ast.IfExp, ast.Dict, ast.Set, ast.ListComp,
    ast.SetComp, ast.DictComp, ast.Compare, ast.Call, ast.FormattedValue, ast.JoinedStr, ast.Constant, ast.Attribute,
    ast.Subscript, ast.Starred, ast.Name, ast.List, ast.Tuple, ast.Slice, ast.comprehension, ast.arguments, ast.arg,
    ast.keyword, ast.alias, ast.expr_context, ast.boolop, ast.operator, ast.unaryop, ast.cmpop)
CHANGES = set("append clear extend insert pop remove reverse setdefault update sort add discard".split())
OWN_METHODS = {name for kind in (str, int, list, dict, set, bytes, tuple) for name in dir(kind)}
FREE_METHODS = METHODS - set(
    "encode decode hex fromhex to_bytes from_bytes translate maketrans sort bit_length".split())
FREE_VALUES = set("count index title find get join lower upper split strip copy add".split())
KINDS = set("int str bool list tuple dict".split())
KEYS = set("len int str abs sum min max tuple".split())
KEYWORDS = {"sorted": ("key", "reverse"), "min": ("key", "default"), "max": ("key", "default"), "sum": ("start",),
            "enumerate": ("start",), "zip": ("strict",)}
COMPREHENSIONS = (ast.ListComp, ast.SetComp, ast.DictComp)
WALKED = ("zip", "enumerate", "reversed", "range")
VIEWS = ("items", "keys", "values")


def faults(files):
    """All faults of a package, told as 'file:line rule'; files is a dict of texts by their names."""
    found = []
    trees = {}
    for name, text in sorted(files.items()):
        rows = [(0, "L1")] if not is_file_name(name) else []
        rows += sign_faults(text)
        try:
            trees[name] = ast.parse(text)
        except SyntaxError as wrong:
            rows.append((wrong.lineno or 0, "syntax"))
        else:
            rows += tree_faults(trees[name])
        found += [f"{name}:{line} {rule}" for line, rule in rows]
    return sorted(set(found + package_faults(trees)))


def is_file_name(name):
    stem = name.removesuffix(".py")
    return bool(FILE.fullmatch(name)) and not NO_FILE.fullmatch(stem) and stem not in dir(builtins)


def sign_faults(text):
    found = []
    lines = text.split("\n")
    if len(lines) - text.endswith("\n") > 400:
        found.append((401, "L10"))
    for at, line in enumerate(lines, start=1):
        if len(line) > 120 or "\t" in line:
            found.append((at, "L10"))
        if any(not " " <= sign <= "~" for sign in line):
            found.append((at, "L14"))
        if WORDS.search(line):
            found.append((at, "L17"))
        if re.search(r"\\(?![nt'\"\\x])", re.sub(r"\\\\", "", line)):
            found.append((at, "L27"))
    return found


def tree_faults(tree):
    found = top_faults(tree) + value_faults(tree) + init_faults(tree) + lambda_faults(tree)
    for node in ast.walk(tree):
        line = getattr(node, "lineno", 0)
        if not isinstance(node, ALLOWED):
            found.append((line, "L6"))
        for look in LOOKS:
            found += [(line, rule) for rule in look(node)]
    return found


def value_faults(tree):
    """Functions of Python's own that are kept as values, not called where they stand."""
    right = set()
    for node in ast.walk(tree):
        if isinstance(node, ast.Call):
            right.add(node.func)
            if isinstance(node.func, ast.Name) and node.func.id == "isinstance":
                right.update(each for arg in node.args[1:] for each in ast.walk(arg))
        if isinstance(node, ast.keyword) and node.arg == "key" and isinstance(node.value, ast.Name):
            right.update([node.value] if node.value.id in KEYS else [])
    return [(node.lineno, "L22") for node in ast.walk(tree)
            if isinstance(node, ast.Name) and node.id in BUILTINS and node.id[0].islower() and node not in right]


def init_faults(tree):
    """A base's __init__ is called in an __init__ alone, with self first; none gives anything back."""
    right = set()
    found = []
    for node in ast.walk(tree):
        if isinstance(node, ast.FunctionDef) and node.name == "__init__":
            for each in ast.walk(node):
                if isinstance(each, ast.Return) and each.value is not None:
                    found.append((each.lineno, "L28"))
                if isinstance(each, ast.Call) and each.args and ast.unparse(each.args[0]) == "self":
                    right.add(each.func)
    return found + [(node.lineno, "L28") for node in ast.walk(tree)
                    if isinstance(node, ast.Attribute) and node.attr == "__init__" and node not in right]


def lambda_faults(tree):
    rows = [(node.lineno, [arg.arg for arg in node.args.args]) for node in ast.walk(tree)
            if isinstance(node, ast.Lambda)]
    return [(line, "L13") for line, names in rows if rows.count((line, names)) > 1]


def is_text(node):
    return isinstance(node, ast.Expr) and isinstance(node.value, ast.Constant) and isinstance(node.value.value, str)


def is_plain(node):
    if isinstance(node, (ast.Tuple, ast.List)):
        return all(is_plain(item) for item in node.elts)
    if isinstance(node, ast.Dict):
        return all(is_plain(item) for item in node.keys + node.values)
    if isinstance(node, ast.BinOp):
        return is_plain(node.left) and is_plain(node.right)
    if isinstance(node, ast.UnaryOp):
        return isinstance(node.op, ast.USub) and is_plain(node.operand)
    return isinstance(node, (ast.Constant, ast.Name))


def bound_at_top(tree):
    """The names that a file's top binds, in turn, without those that it imports."""
    names = []
    for row in tree.body:
        if isinstance(row, (ast.FunctionDef, ast.ClassDef)):
            names.append(row.name)
        elif isinstance(row, ast.Assign):
            names += [goal.id for goal in row.targets if isinstance(goal, ast.Name)]
    return names


def imported(tree):
    return [alias.asname or alias.name for row in ast.walk(tree) if isinstance(row, ast.ImportFrom)
            for alias in row.names]


def top_faults(tree):
    found = []
    begun = False
    for at, row in enumerate(tree.body):
        if isinstance(row, ast.ImportFrom):
            if begun:
                found.append((row.lineno, "L2"))
        elif is_text(row) and at == 0:
            continue
        else:
            begun = True
            if isinstance(row, ast.Assign):
                if len(row.targets) != 1 or not isinstance(row.targets[0], ast.Name) or not is_plain(row.value):
                    found.append((row.lineno, "L3"))
            elif not isinstance(row, (ast.FunctionDef, ast.ClassDef)):
                found.append((row.lineno, "L3"))
    names = bound_at_top(tree) + imported(tree)
    found += [(0, "L15") for name in set(names) if names.count(name) > 1]
    top_classes = [row for row in tree.body if isinstance(row, ast.ClassDef)]
    found += [(node.lineno, "L15") for node in ast.walk(tree)
              if isinstance(node, ast.ClassDef) and node not in top_classes]
    taken = imported(tree) + [row.name for row in top_classes]
    for node in ast.walk(tree):
        if isinstance(node, ast.FunctionDef):
            within = [each for each in ast.walk(node) if not isinstance(each, ast.ClassDef)]
            found += [(node.lineno, "L15") for each in within for name in names_of(each)[0] if name in taken]
    inner = [row for row in ast.walk(tree) if isinstance(row, ast.ImportFrom) and row not in tree.body]
    return found + [(row.lineno, "L2") for row in inner]


def import_looks(node):
    if isinstance(node, ast.ImportFrom):
        names = [alias.name for alias in node.names]
        if node.module == "__future__" and names == ["annotations"]:
            return []
        if node.level or not (node.module or "").startswith(PACKAGE + ".") or "*" in names:
            return ["L2"]
    return []


def function_looks(node):
    if not isinstance(node, (ast.FunctionDef, ast.Lambda)):
        return []
    found = []
    given = node.args
    if given.vararg or given.kwarg or given.posonlyargs:
        found.append("L4")
    if any(not is_plain(value) for value in given.defaults + given.kw_defaults if value is not None):
        found.append("L4")
    if isinstance(node, ast.FunctionDef):
        if node.decorator_list:
            found.append("L4")
        if node.end_lineno - node.lineno + 1 > 40:
            found.append("L10")
        if node.returns or any(arg.annotation for arg in given.args + given.kwonlyargs):
            found.append("L21")
    return found


def class_looks(node):
    if not isinstance(node, ast.ClassDef):
        return []
    found = []
    if node.decorator_list or node.keywords or len(node.bases) > 1:
        found.append("L5")
    methods = [row for row in node.body if isinstance(row, ast.FunctionDef)]
    rest = [row for row in node.body if row not in methods and not isinstance(row, ast.Pass)]
    if any(not is_text(row) or row is not node.body[0] for row in rest):
        found.append("L5")
    names = [method.name for method in methods]
    if len(names) != len(set(names)):
        found.append("L18")
    if any(name.startswith("__") and name not in DUNDERS for name in names):
        found.append("L5")
    return found


def statement_looks(node):
    found = []
    if isinstance(node, (ast.For, ast.While)) and node.orelse:
        found.append("L6")
    if isinstance(node, (ast.Module, ast.FunctionDef, ast.ClassDef, ast.If, ast.For, ast.While, ast.Try)):
        docs = isinstance(node, (ast.Module, ast.FunctionDef, ast.ClassDef))
        for at, row in enumerate(node.body):
            is_call = isinstance(row, ast.Expr) and isinstance(row.value, ast.Call)
            if isinstance(row, ast.Expr) and not is_call and not (docs and at == 0 and is_text(row)):
                found.append("L6")
    if isinstance(node, ast.Raise) and node.exc is not None:
        if not isinstance(node.exc, ast.Call) or not isinstance(node.exc.func, ast.Name):
            found.append("L19")
    if isinstance(node, ast.ExceptHandler):
        classes = node.type.elts if isinstance(node.type, ast.Tuple) else [node.type]
        if not classes or any(not isinstance(item, ast.Name) for item in classes):
            found.append("L19")
        elif any(item.id in ("Exception", "TypeError") for item in classes):
            found.append("L19")
    if isinstance(node, (ast.Assign, ast.Return)) and is_lazy(node.value):
        found.append("L23")
    return found


def is_lazy(node):
    if not isinstance(node, ast.Call):
        return False
    if isinstance(node.func, ast.Name):
        return node.func.id in WALKED
    return isinstance(node.func, ast.Attribute) and node.func.attr in VIEWS


def expression_looks(node):
    found = []
    if isinstance(node, ast.Constant):
        if isinstance(node.value, (float, complex)) or node.value is ...:
            found.append("L7")
        if isinstance(node.value, str) and "%" in node.value or isinstance(node.value, bytes) and b"%" in node.value:
            found.append("L27")
    if isinstance(node, (ast.Div, ast.MatMult)):
        found.append("L7")
    if isinstance(node, ast.Starred) and not isinstance(node.ctx, ast.Store):
        found.append("L7")
    if isinstance(node, ast.Dict) and None in node.keys or isinstance(node, ast.keyword) and node.arg is None:
        found.append("L7")
    if isinstance(node, ast.FormattedValue) and node.format_spec is not None:
        found.append("L7")
    if isinstance(node, COMPREHENSIONS):
        ifs = sum(len(each.ifs) for each in node.generators)
        if len(node.generators) > 6 or ifs > 12 or any(each.is_async for each in node.generators):
            found.append("L7")
    if isinstance(node, ast.BinOp) and isinstance(node.op, ast.Pow):
        if not isinstance(node.right, ast.Constant) or node.right.value not in range(65):
            found.append("L27")
    if isinstance(node, ast.Compare):
        sides = [node.left] + node.comparators
        for at, sign in enumerate(node.ops):
            if isinstance(sign, (ast.Is, ast.IsNot)) and not any(is_single(side) for side in sides[at:at + 2]):
                found.append("L20")
    return found


def is_single(node):
    return isinstance(node, ast.Constant) and (node.value is None or isinstance(node.value, bool))


def name_looks(node):
    found = []
    bound, asked = names_of(node)
    for name in bound + asked:
        if name.startswith("_") and name not in DUNDERS and name not in ("__all__", "__version__"):
            found.append("L12")
        if name in NEVER or name in NO_NAMES:
            found.append("L17")
    if any(name in dir(builtins) for name in bound):
        found.append("L15")
    if any(name in dir(builtins) and name not in BUILTINS for name in asked):
        found.append("L8")
    if isinstance(node, ast.Attribute):
        if node.attr in NEVER:
            found.append("L17")
        if node.attr.startswith("_") and node.attr != "__init__":
            found.append("L12")
    return found


def names_of(node):
    """The names that a node binds, and those that it asks for; of methods neither, those are free."""
    if isinstance(node, ast.Name):
        return ([], [node.id]) if isinstance(node.ctx, ast.Load) else ([node.id], [])
    if isinstance(node, ast.arg):
        return [node.arg], []
    if isinstance(node, ast.ClassDef):
        return [node.name], []
    if isinstance(node, ast.ExceptHandler):
        return [node.name] if node.name else [], []
    if isinstance(node, ast.ImportFrom):
        return [alias.asname or alias.name for alias in node.names], []
    if isinstance(node, (ast.Module, ast.FunctionDef)):
        return [row.name for row in node.body if isinstance(row, ast.FunctionDef)], []
    return [], []


def loop_looks(node):
    """What a loop walks, and its body changes."""
    if not isinstance(node, ast.For):
        return []
    walked = {ast.unparse(thing) for thing in walked_things(node.iter)}
    for row in node.body:
        for each in ast.walk(row):
            if walked & {ast.unparse(thing) for thing in changed_things(each)}:
                return ["L23"]
    return []


def walked_things(node):
    if isinstance(node, ast.Call) and isinstance(node.func, ast.Name) and node.func.id in WALKED:
        return [thing for arg in node.args for thing in walked_things(arg)]
    if isinstance(node, ast.Call) and isinstance(node.func, ast.Attribute) and node.func.attr in VIEWS:
        return [node.func.value]
    return [node]


def changed_things(node):
    if isinstance(node, ast.Call) and isinstance(node.func, ast.Attribute) and node.func.attr in CHANGES:
        return [node.func.value]
    if isinstance(node, ast.Subscript) and not isinstance(node.ctx, ast.Load):
        return [node.value]
    if isinstance(node, ast.AugAssign):
        return [node.target]
    return []


def set_looks(node):
    """Sets stand behind `in`, beside `==`, or straight within sorted(..) or len(..)."""
    found = []
    for child in ast.iter_child_nodes(node):
        is_called = isinstance(child, ast.Call) and isinstance(child.func, ast.Name) and child.func.id == "set"
        if isinstance(child, (ast.Set, ast.SetComp)) or is_called:
            is_counted = isinstance(node, ast.Call) and isinstance(node.func, ast.Name) and not node.keywords \
                and node.func.id in ("sorted", "len")
            if not is_counted and not isinstance(node, ast.Compare):
                found.append("L24")
    return found


def own_name_looks(node):
    """Methods and values that are called like Python's own."""
    found = []
    if isinstance(node, ast.ClassDef):
        names = [row.name for row in node.body if isinstance(row, ast.FunctionDef)]
        found += ["L26" for name in names if name in OWN_METHODS - FREE_METHODS - DUNDERS]
    if isinstance(node, ast.Attribute) and isinstance(node.ctx, ast.Store):
        found += ["L26"] if node.attr in OWN_METHODS - FREE_VALUES else []
    return found


def strict_looks(node):
    """What the rules allow in narrow forms alone, and the package does without."""
    found = []
    if isinstance(node, ast.Try) and node.finalbody:
        found.append("L6")
    if isinstance(node, ast.Constant) and isinstance(node.value, bytes):
        found.append("L7")
    if isinstance(node, ast.Name) and node.id == "bytes" or isinstance(node, ast.Attribute) and node.attr == "encode":
        found.append("L7")
    if isinstance(node, ast.FunctionDef) and node.name in DUNDERS - {"__init__"}:
        found.append("L28")
    if isinstance(node, ast.Set) and len([each for each in node.elts if is_written_number(each)]) > 2:
        found.append("L13")
    return found


def is_written_number(node):
    return isinstance(node, ast.Constant) and isinstance(node.value, int)


def call_looks(node):
    """Keywords at names and methods of Python's own, and what isinstance asks for."""
    if not isinstance(node, ast.Call):
        return []
    found = []
    words = [word.arg for word in node.keywords]
    if isinstance(node.func, ast.Name) and node.func.id in BUILTINS:
        found += ["L22" for word in words if word not in KEYWORDS.get(node.func.id, ())]
    if isinstance(node.func, ast.Attribute) and node.func.attr in METHODS - {"sort"}:
        found += ["L22" for word in words]
    if isinstance(node.func, ast.Name) and node.func.id == "isinstance":
        asked = node.args[1].elts if isinstance(node.args[1], ast.Tuple) else [node.args[1]]
        found += ["L22" for each in asked if not isinstance(each, ast.Name)
                  or each.id not in KINDS and not each.id[0].isupper()]
    return found


LOOKS = (import_looks, function_looks, class_looks, statement_looks, expression_looks, name_looks, loop_looks,
         set_looks, own_name_looks, strict_looks, call_looks)


def package_faults(trees):
    return import_faults(trees) + attribute_faults(trees) + class_faults(trees)


def class_faults(trees):
    """Classes that do not stand where they are called, a base, raised, taken, or by isinstance."""
    classes = {row.name for tree in trees.values() for row in tree.body if isinstance(row, ast.ClassDef)}
    found = []
    for name, tree in trees.items():
        right = set()
        for node in ast.walk(tree):
            if isinstance(node, ast.Call):
                right.add(node.func)
                if isinstance(node.func, ast.Name) and node.func.id == "isinstance":
                    right.update(each for arg in node.args[1:] for each in ast.walk(arg))
            if isinstance(node, ast.ClassDef):
                right.update(node.bases)
            if isinstance(node, ast.ExceptHandler) and node.type is not None:
                right.update(ast.walk(node.type))
            if isinstance(node, ast.Attribute) and node.attr == "__init__":
                right.add(node.value)
        found += [f"{name}:{node.lineno} L18" for node in ast.walk(tree)
                  if isinstance(node, ast.Name) and node.id in classes and node not in right]
    return found


def drawn(tree):
    """The rows (line, file, name) of what a file draws from the package's other files."""
    return [(row.lineno, (row.module or "").removeprefix(PACKAGE + ".") + ".py", alias.name)
            for row in ast.walk(tree) if isinstance(row, ast.ImportFrom) and row.module != "__future__"
            for alias in row.names]


def import_faults(trees):
    found = []
    for name, tree in trees.items():
        for line, other, thing in drawn(tree):
            if other == "__main__.py" or other not in trees or thing not in bound_at_top(trees[other]):
                found.append(f"{name}:{line} L16")
        if reaches(trees, name, name):
            found.append(f"{name}:0 L16")
    return found


def reaches(trees, start, goal):
    """Whether a file draws from another, in whatever many steps; whoever draws draws from __init__.py too."""
    seen = []
    ahead = [start]
    while ahead:
        rows = drawn(trees[ahead.pop()])
        others = [other for line, other, thing in rows] + (["__init__.py"] if rows else [])
        if goal in others:
            return True
        fresh = [other for other in others if other in trees and other not in seen]
        seen += fresh
        ahead += fresh
    return False


def attribute_faults(trees):
    found = []
    methods = set()
    values = set()
    nodes = [(name, node) for name, tree in trees.items() for node in ast.walk(tree)]
    for name, node in nodes:
        if isinstance(node, ast.ClassDef):
            methods.update(row.name for row in node.body if isinstance(row, ast.FunctionDef))
        if isinstance(node, ast.Attribute) and isinstance(node.ctx, ast.Store):
            values.add(node.attr)
    for name, node in nodes:
        if isinstance(node, ast.Attribute):
            if node.attr in methods and node.attr in values:
                found.append(f"{name}:{node.lineno} L18")
            elif node.attr not in methods | values | METHODS | {"__init__"}:
                found.append(f"{name}:{node.lineno} L25")
    return found
