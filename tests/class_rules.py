"""The rules of LANGUAGE.md on classes, calls, generators and sets that can be seen. Each function returns faults."""

import ast

FUNCTIONS = (ast.FunctionDef, ast.AsyncFunctionDef)
DOUBLE_UNDERSCORES = ["__init__", "__eq__", "__repr__", "__str__", "__len__"]
METHODS_OF_BUILTINS = [
    "append", "clear", "copy", "count", "endswith", "extend", "find", "get", "index", "insert", "isalnum", "isalpha",
    "isdigit", "islower", "isspace", "isupper", "items", "join", "keys", "ljust", "lower", "lstrip", "partition", "pop",
    "remove", "replace", "reverse", "rfind", "rjust", "rpartition", "rsplit", "rstrip", "setdefault", "split",
    "splitlines", "startswith", "strip", "update", "upper", "values", "zfill", "bit_length", "removeprefix",
    "removesuffix", "isascii", "isdecimal", "add", "discard",
]
ITERATING = ["list", "tuple", "dict", "sorted", "sum", "min", "max", "any", "all", "enumerate", "zip"]
TAKES_A_LIST = ["any", "all", "min", "max", "sum", "sorted"]
KEYWORDS = {
    "sorted": ["key", "reverse"], "min": ["key", "default"], "max": ["key", "default"], "sum": ["start"],
    "enumerate": ["start"], "zip": ["strict"],
}
NOT_CAUGHT = ["Exception", "TypeError", "ArithmeticError", "OverflowError", "RuntimeError", "NotImplementedError",
              "AttributeError", "BaseException", "StopIteration"]


def with_parents(text):
    """Each node of a file with the node that it stands in."""
    return [(child, node) for node in ast.walk(ast.parse(text)) for child in ast.iter_child_nodes(node)]


def is_call_of(node, names):
    return isinstance(node, ast.Call) and isinstance(node.func, ast.Name) and node.func.id in names


def classes_of(text):
    return [node for node in ast.walk(ast.parse(text)) if isinstance(node, ast.ClassDef)]


def method_nodes(text):
    return [row for node in classes_of(text) for row in node.body if isinstance(row, FUNCTIONS)]


def is_iterated(child, parent):
    """Whether a node is iterated at once in the node that it stands in."""
    if isinstance(parent, (ast.For, ast.comprehension)):
        return parent.iter is child
    if isinstance(parent, ast.Call) and child in parent.args[:1]:
        joins = isinstance(parent.func, ast.Attribute) and parent.func.attr == "join"
        return is_call_of(parent, ITERATING) or joins and isinstance(parent.func.value, ast.Constant)
    return is_call_of(parent, ["zip"]) and child in parent.args or isinstance(parent, ast.YieldFrom)


def double_underscore_faults(text):
    """L5, L28: only these double-underscore methods, and in classes only."""
    methods = [node.lineno for node in method_nodes(text)]
    faults = []
    for node in ast.walk(ast.parse(text)):
        if isinstance(node, FUNCTIONS) and node.name.startswith("__"):
            if node.name not in DOUBLE_UNDERSCORES or node.lineno not in methods:
                faults.append(f"{node.lineno}: {node.name}")
    return faults


def decorator_faults(text):
    """L4, L5: one decorator at most, over methods only: property, its setter, staticmethod, classmethod."""
    methods = [node.lineno for node in method_nodes(text)]
    faults = []
    for node in ast.walk(ast.parse(text)):
        over = getattr(node, "decorator_list", [])
        if over and (len(over) > 1 or node.lineno not in methods or not is_known_decorator(over[0])):
            faults.append(f"{node.lineno}: a decorator")
    return faults


def is_known_decorator(node):
    if isinstance(node, ast.Attribute):
        return node.attr == "setter" and isinstance(node.value, ast.Name)
    return isinstance(node, ast.Name) and node.id in ("property", "staticmethod", "classmethod")


def default_faults(text):
    """L4: default values are plain."""
    faults = []
    for node in ast.walk(ast.parse(text)):
        if isinstance(node, ast.arguments):
            values = node.defaults + [value for value in node.kw_defaults if value is not None]
            faults += [f"{value.lineno}: a default value" for value in values if not is_plain(value)]
            faults += [f"{over.lineno}: a sign among the parameters" for over in node.posonlyargs]
    return faults


def is_plain(node):
    if isinstance(node, ast.UnaryOp) and isinstance(node.op, ast.USub):
        return isinstance(node.operand, ast.Constant)
    if isinstance(node, ast.Tuple):
        return all([is_plain(part) for part in node.elts])
    return isinstance(node, ast.Constant)


def call_faults(text):
    """L7, L22: lists instead of generator expressions, and the keywords of builtins."""
    faults = []
    for node in ast.walk(ast.parse(text)):
        if is_call_of(node, TAKES_A_LIST) and any([isinstance(part, ast.GeneratorExp) for part in node.args]):
            faults.append(f"{node.lineno}: a generator expression in {node.func.id}")
        if is_call_of(node, [*ITERATING, "len", "int", "str", "isinstance", "abs", "range", "set", "reversed", "repr"]):
            faults += [f"{node.lineno}: the keyword {word.arg}" for word in node.keywords
                       if word.arg not in KEYWORDS.get(node.func.id, [])]
    return faults


def iteration_faults(text):
    """L23: what is iterated at once is not stored."""
    faults = []
    for child, parent in with_parents(text):
        views = isinstance(child, ast.Call) and isinstance(child.func, ast.Attribute)
        views = views and child.func.attr in ("items", "keys", "values")
        if (is_call_of(child, ["zip", "enumerate", "reversed", "range"]) or views) and not is_iterated(child, parent):
            if not (is_call_of(child, ["range"]) and (isinstance(parent, ast.Compare) or is_call_of(parent, ["reversed"]))):
                faults.append(f"{child.lineno}: not iterated at once")
    return faults


def error_faults(text):
    """L19: errors are created where they are raised, and no wide class of errors is caught."""
    faults = []
    for node in ast.walk(ast.parse(text)):
        if isinstance(node, ast.Raise) and node.exc is not None:
            if not (isinstance(node.exc, ast.Call) and isinstance(node.exc.func, ast.Name)):
                faults.append(f"{node.lineno}: raise")
        if isinstance(node, ast.ExceptHandler):
            parts = node.type.elts if isinstance(node.type, ast.Tuple) else [node.type]
            faults += [f"{node.lineno}: except" for part in parts
                       if not isinstance(part, ast.Name) or part.id in NOT_CAUGHT]
            if not parts:
                faults.append(f"{node.lineno}: except of nothing")
    return faults


def set_faults(text):
    """L24: sets stand after in, beside == and !=, in sorted and len, or are stored once in a local variable."""
    faults = []
    for child, parent in with_parents(text):
        if isinstance(child, ast.Name) and child.id == "frozenset":
            faults.append(f"{child.lineno}: frozenset")
        if isinstance(child, (ast.Set, ast.SetComp)) or is_call_of(child, ["set"]):
            stored = isinstance(parent, ast.Assign) and isinstance(parent.targets[0], ast.Name)
            counted = is_call_of(parent, ["sorted", "len"]) and not parent.keywords
            if not (stored or counted or isinstance(parent, (ast.Compare, ast.BinOp))):
                faults.append(f"{child.lineno}: a set")
    return faults


def result_faults(text):
    """L28: what the double-underscore methods return, and that they assign nothing."""
    faults = []
    for node in method_nodes(text):
        returned = [row for row in ast.walk(node) if isinstance(row, ast.Return)]
        if node.name == "__init__":
            faults += [f"{row.lineno}: return in __init__" for row in returned]
            faults += [f"{row.lineno}: lambda in __init__" for row in ast.walk(node) if isinstance(row, ast.Lambda)]
        if node.name in ("__eq__", "__repr__", "__str__", "__len__"):
            faults += [f"{row.lineno}: an assignment" for row in ast.walk(node)
                       if isinstance(row, (ast.Assign, ast.AugAssign, ast.AnnAssign, ast.Delete))]
        if node.name == "__len__":
            faults += [f"{row.lineno}: the result of __len__" for row in returned
                       if not is_call_of(row.value, ["len"]) and not isinstance(row.value, ast.Constant)]
        if node.name in ("__repr__", "__str__"):
            faults += [f"{row.lineno}: the result of {node.name}" for row in returned if not is_string(row.value)]
    return faults


def is_string(node):
    if isinstance(node, ast.Call) and isinstance(node.func, ast.Attribute):
        return node.func.attr == "join" and isinstance(node.func.value, ast.Constant)
    return isinstance(node, (ast.Constant, ast.JoinedStr)) or is_call_of(node, ["str", "repr"])


def shadow_faults(text):
    """L15: no parameter and no local variable has the name of a class or an import of its file."""
    tree = ast.parse(text)
    taken = {node.name for node in classes_of(text)}
    for node in ast.walk(tree):
        if isinstance(node, ast.ImportFrom):
            taken |= {part.asname or part.name for part in node.names}
    faults = []
    for node in ast.walk(tree):
        name = node.arg if isinstance(node, ast.arg) else None
        if isinstance(node, ast.Name) and isinstance(node.ctx, ast.Store):
            name = node.id
        if name in taken:
            faults.append(f"{node.lineno}: {name} has two meanings")
    return faults


def generator_names(texts):
    """The functions of the package that yield."""
    return {node.name for text in texts.values() for node in ast.walk(ast.parse(text)) if isinstance(node, FUNCTIONS)
            and any([isinstance(row, (ast.Yield, ast.YieldFrom)) for row in ast.walk(node)])}


def generator_faults(texts):
    """L23: the call of a generator is iterated at once, and its function is not used as a value."""
    names = generator_names(texts)
    faults = []
    for module, text in texts.items():
        for child, parent in with_parents(text):
            if is_call_of(child, names) and not is_iterated(child, parent):
                faults.append(f"{module} {child.lineno}: {child.func.id} is not iterated at once")
            if isinstance(child, ast.Name) and child.id in names:
                if not (isinstance(parent, ast.Call) and parent.func is child):
                    faults.append(f"{module} {child.lineno}: {child.id} as a value")
            if isinstance(child, (ast.Yield, ast.YieldFrom)) and not isinstance(parent, ast.Expr):
                faults.append(f"{module} {child.lineno}: yield is no statement of its own")
    return faults


def attribute_faults(texts):
    """L18, L25: methods and attributes have different names, and each attribute that is read exists."""
    methods, values, assigned, read = set(), set(), set(), []
    for module, text in texts.items():
        methods |= {node.name for node in method_nodes(text)}
        values |= {target.id for node in classes_of(text) for row in node.body if isinstance(row, ast.Assign)
                   for target in row.targets}
        for node in ast.walk(ast.parse(text)):
            if isinstance(node, ast.Attribute) and isinstance(node.ctx, ast.Store):
                assigned.add(node.attr)
            elif isinstance(node, ast.Attribute):
                read.append((node.attr, f"{module} {node.lineno}: {node.attr}"))
    faults = [f"{name} is a method and an attribute" for name in sorted(methods & assigned)]
    faults += [f"{name} is a class value and more" for name in sorted(values & (methods | assigned))]
    known = methods | values | assigned | set(METHODS_OF_BUILTINS) | {"__init__", "setter"}
    return faults + [shown for name, shown in read if name not in known]


def twice_faults(text):
    """L18: no method is defined twice in a class."""
    faults = []
    for node in classes_of(text):
        names = [row.name for row in node.body if isinstance(row, FUNCTIONS)
                 and not any([isinstance(over, ast.Attribute) for over in row.decorator_list])]
        faults += [f"{node.name}.{name} twice" for name in sorted(set(names)) if names.count(name) > 1]
    return faults


def class_faults(text):
    """All faults that one file shows alone."""
    faults = []
    for rule in [double_underscore_faults, decorator_faults, default_faults, call_faults, iteration_faults, error_faults,
                 set_faults, result_faults, shadow_faults, twice_faults]:
        faults += rule(text)
    return faults


def package_faults(texts):
    """All faults that the files show together."""
    return generator_faults(texts) + attribute_faults(texts)
