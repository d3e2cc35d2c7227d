"""Finds breaks of some rules of LANGUAGE.md; the others have to be checked by reading."""

import ast
import builtins
import re

BUILTINS = set("""len range enumerate zip min max sum abs sorted reversed int str bool bytes list tuple dict set
    frozenset isinstance ord repr any all divmod iter next super property staticmethod classmethod NotImplemented
    Exception ValueError TypeError KeyError IndexError LookupError ZeroDivisionError ArithmeticError OverflowError
    RuntimeError NotImplementedError AttributeError StopIteration""".split())
ALL_BUILTINS = set(dir(builtins)) - {"__doc__", "__name__"}
PLAIN_METHODS = set("""append clear copy count endswith extend find get index insert isalnum isalpha isdigit islower
    isspace isupper items join keys ljust lower lstrip partition pop remove replace reverse rfind rjust rpartition
    rsplit rstrip setdefault split splitlines startswith strip update upper values zfill bit_length add discard
    sort""".split())
DOUBLE = set("""__init__ __eq__ __repr__ __str__ __len__ __enter__ __exit__ __call__ __iter__ __lt__ __le__ __gt__
    __ge__ __ne__ __add__ __sub__ __mul__ __and__ __or__ __xor__ __neg__ __pos__ __invert__ __abs__ __bool__
    __contains__ __getitem__ __setitem__""".split())
PURE = ("__eq__", "__repr__", "__str__", "__len__", "__add__", "__contains__", "__bool__")
ON_THE_SPOT = ("zip", "enumerate", "reversed", "range", "items", "keys", "values")
BARRED_NAMES = set("register mro elements open input law version_info with_traceback add_note".split())
BARRED_WORDS = set("""type typing typing_extensions enum Enum IntEnum StrEnum Flag IntFlag Generic Protocol ABC
    ABCMeta namedtuple NamedTuple TypedDict TYPE_CHECKING abstractmethod""".split())
BARRED_PARTS = ("dataclass", "overload", "contextmanager")
BARRED_NODES = (
    ast.Global, ast.AsyncFunctionDef, ast.AsyncFor, ast.AsyncWith, ast.Await, ast.GeneratorExp, ast.Div, ast.MatMult,
    ast.Import, ast.MatchClass, ast.MatchMapping)
MODULE_NODES = (ast.FunctionDef, ast.ClassDef, ast.ImportFrom, ast.Assign, ast.AnnAssign)
CAUGHT = ("KeyError", "ZeroDivisionError", "StopIteration", "ValueError", "LookupError", "IndexError")


def text_breaks(text):
    """Breaks of L10, L14, L17 and L27 in the text of a file."""
    found = []
    lines = text.split("\n")
    if len(lines) > 400:
        found.append("L10: a file of more than 399 lines")
    for at, line in enumerate(lines, 1):
        if len(line) > 120:
            found.append(f"L10: line {at} is long")
        if any(not " " <= sign <= "~" for sign in line):
            found.append(f"L14: a sign in line {at}")
    words = set(re.findall(r"\w+", text))
    found += [f"L17: the word {word}" for word in sorted(words & BARRED_WORDS)]
    found += [f"L17: the part {part}" for part in BARRED_PARTS if part in text]
    return found


def names_in(tree):
    """All names that a file binds or uses."""
    for node in ast.walk(tree):
        for field in ("name", "id", "arg", "attr"):
            value = getattr(node, field, None)
            if isinstance(value, str):
                yield value


def bound_in(function):
    """The names that a function binds, those of nested functions included."""
    for node in ast.walk(function):
        if isinstance(node, ast.arg):
            yield node.arg
        if isinstance(node, ast.Name) and isinstance(node.ctx, ast.Store):
            yield node.id


def functions_in(tree):
    return [node for node in ast.walk(tree) if isinstance(node, ast.FunctionDef)]


def classes_in(tree):
    return [node for node in tree.body if isinstance(node, ast.ClassDef)]


def node_breaks(tree, own):
    """Breaks that one node of a file shows by itself."""
    for node in ast.walk(tree):
        at = getattr(node, "lineno", 0)
        if isinstance(node, BARRED_NODES):
            yield f"line {at}: {node.__class__.__name__}"
        if isinstance(node, ast.Constant):
            if isinstance(node.value, float) or isinstance(node.value, str) and "%" in node.value:
                yield f"L7, L27: line {at}: {node.value!r}"
        if isinstance(node, ast.Compare):
            for sign, right in zip(node.ops, node.comparators):
                plain = isinstance(right, ast.Constant) and right.value in (None, True, False)
                if isinstance(sign, (ast.Is, ast.IsNot)) and not plain:
                    yield f"L20: line {at}"
        if isinstance(node, ast.ExceptHandler):
            caught = node.type.elts if isinstance(node.type, ast.Tuple) else [node.type]
            for error in caught:
                if not isinstance(error, ast.Name) or error.id in BUILTINS and error.id not in CAUGHT:
                    yield f"L19: line {at}"
        if isinstance(node, ast.Call) and isinstance(node.func, ast.Attribute):
            if node.func.attr not in PLAIN_METHODS and node.func.attr not in own:
                yield f"L25: line {at}: {node.func.attr}"
        if isinstance(node, ast.Name) and isinstance(node.ctx, ast.Load):
            if node.id in ALL_BUILTINS and node.id not in BUILTINS:
                yield f"L8: line {at}: {node.id}"
        if isinstance(node, (ast.For, ast.comprehension)) and isinstance(node.iter, (ast.Set, ast.SetComp)):
            yield "L24: a set is iterated"


def function_breaks(tree):
    """Breaks of L4, L10, L12 and L15 in the functions of a file."""
    outside = {node.name for node in classes_in(tree)}
    for node in tree.body:
        if isinstance(node, ast.ImportFrom):
            outside |= {item.asname or item.name for item in node.names}
    for function in functions_in(tree):
        if function.end_lineno - function.lineno >= 40:
            yield f"L10: {function.name}"
        if function.args.posonlyargs:
            yield f"L4: {function.name}"
        for mark in function.decorator_list:
            plain = isinstance(mark, ast.Name) and mark.id in ("staticmethod", "classmethod", "property")
            if not plain and not (isinstance(mark, ast.Attribute) and mark.attr == "setter"):
                yield f"L4: {function.name}"
        for name in bound_in(function):
            if name in outside or name in ALL_BUILTINS:
                yield f"L15: {function.name}: {name}"
    for name in names_in(tree):
        if name in BARRED_NAMES or name.startswith("_") and name not in DOUBLE:
            yield f"L12, L17: {name}"


def module_breaks(tree):
    """Breaks of L2, L3 and L15 at module level."""
    bound = []
    for at, node in enumerate(tree.body):
        docstring = at == 0 and isinstance(node, ast.Expr) and isinstance(node.value, ast.Constant)
        if not docstring and not isinstance(node, MODULE_NODES):
            yield f"L3: line {node.lineno}"
        if isinstance(node, ast.ImportFrom):
            if node.level or not node.module.startswith("addedgrounds."):
                yield f"L2: {node.module}"
            bound += [item.asname or item.name for item in node.names]
        elif isinstance(node, ast.Assign):
            bound += [target.id for target in node.targets]
        elif isinstance(node, (ast.FunctionDef, ast.ClassDef)):
            bound.append(node.name)
    yield from [f"L15: {name} is bound twice" for name in bound if bound.count(name) > 1]
    yield from [f"L15: {name}" for name in bound if name in ALL_BUILTINS]


def called(node):
    """The name of what a node calls, or an empty string."""
    if not isinstance(node, ast.Call):
        return ""
    return getattr(node.func, "id", getattr(node.func, "attr", ""))


def iterated_breaks(tree):
    """Breaks of L23: what has to be iterated on the spot is stored, and generators in wrong places."""
    for node in ast.walk(tree):
        if isinstance(node, (ast.Assign, ast.Return)) and called(node.value) in ON_THE_SPOT:
            yield f"L23: line {node.lineno}"
        if isinstance(node, (ast.Yield, ast.YieldFrom)):
            statements = [item.value for item in ast.walk(tree) if isinstance(item, ast.Expr)]
            if node not in statements:
                yield f"L23: line {node.lineno}"
    for function in functions_in(tree):
        lazy = any(isinstance(node, (ast.Yield, ast.YieldFrom)) for node in ast.walk(function))
        if lazy and (function.decorator_list or function.name in PLAIN_METHODS or function.name.startswith("__")):
            yield f"L23: {function.name}"


def table_breaks(tree, tables):
    """Breaks of L15: a list or dict at module level that is passed on, or changed."""
    above = {kid: node for node in ast.walk(tree) for kid in ast.iter_child_nodes(node)}
    for node in ast.walk(tree):
        if not isinstance(node, ast.Name) or node.id not in tables or not isinstance(node.ctx, ast.Load):
            continue
        user = above[node]
        plain = isinstance(user, ast.Compare) and node in user.comparators
        plain = plain or isinstance(user, ast.Subscript) and node == user.value and isinstance(user.ctx, ast.Load)
        if not plain and not (isinstance(user, ast.Attribute) and user.attr == "get"):
            yield f"L15: line {node.lineno}: {node.id}"


def tables_in(trees):
    """The names of the lists and dicts at module level."""
    return {target.id for tree in trees for node in tree.body if isinstance(node, ast.Assign)
            for target in node.targets if isinstance(node.value, (ast.List, ast.Dict))}


def is_property(function):
    return any(getattr(mark, "id", "") == "property" for mark in function.decorator_list)


def pure_breaks(tree):
    """Breaks of L5 and L28: an operator, or a method like one, that changes something."""
    for function in functions_in(tree):
        if function.name not in PURE and not is_property(function):
            continue
        for node in ast.walk(function):
            stored = isinstance(getattr(node, "ctx", None), (ast.Store, ast.Del))
            if stored and isinstance(node, (ast.Attribute, ast.Subscript)) or isinstance(node, ast.AugAssign):
                yield f"L5, L28: {function.name}"


def methods_in(trees):
    return {function.name for tree in trees for found in classes_in(tree) for function in functions_in(found)}


def attributes_in(trees):
    """The attributes that the files assign."""
    return {node.attr for tree in trees for node in ast.walk(tree)
            if isinstance(node, ast.Attribute) and isinstance(node.ctx, ast.Store)}


def import_breaks(trees):
    """Breaks of L16 and L18 in several files, given by their modules' names."""
    found = []
    needs = {name: set() for name in trees}
    for name, tree in trees.items():
        for node in tree.body:
            if not isinstance(node, ast.ImportFrom):
                continue
            if node.module not in trees:
                found.append(f"L2: {node.module}")
                continue
            needs[name].add(node.module)
            defined = {getattr(item, "name", None) for item in trees[node.module].body}
            defined |= {target.id for item in trees[node.module].body if isinstance(item, ast.Assign)
                        for target in item.targets}
            found += [f"L16: {item.name}" for item in node.names if item.name not in defined]
    while any(not needs[name] for name in needs):
        done = {name for name in needs if not needs[name]}
        needs = {name: needs[name] - done for name in needs if name not in done}
    found += [f"L16: a circle with {name}" for name in needs]
    found += property_breaks(trees)
    both = methods_in(trees.values()) & attributes_in(trees.values())
    return found + [f"L18: {name} is a method and an attribute" for name in sorted(both)]


def property_breaks(trees):
    """Breaks of L5: a name of properties, or of static methods, that plain methods have, too."""
    kinds = {}
    for tree in trees.values():
        for function in [node for found in classes_in(tree) for node in functions_in(found)]:
            marks = [getattr(mark, "id", getattr(mark, "attr", "")) for mark in function.decorator_list]
            kinds.setdefault(function.name, set()).add("property" if "setter" in marks else "".join(marks))
    return [f"L5: {name} is of several kinds" for name in kinds if len(kinds[name]) > 1]


def breaks_in(texts):
    """The breaks in the files of a package: a dict from modules' names to texts."""
    trees = {name: ast.parse(text) for name, text in texts.items()}
    own = methods_in(trees.values())
    tables = tables_in(trees.values())
    found = import_breaks(trees)
    for name, tree in trees.items():
        here = text_breaks(texts[name]) + list(node_breaks(tree, own)) + list(function_breaks(tree))
        here += list(module_breaks(tree)) + list(pure_breaks(tree)) + list(iterated_breaks(tree))
        here += list(table_breaks(tree, tables))
        found += [f"{name}: {text}" for text in here]
    return found
