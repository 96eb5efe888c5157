"""The rules of LANGUAGE.md on base classes, super, properties, stars, tables and causes. Each returns faults."""

import ast

FUNCTIONS = (ast.FunctionDef, ast.AsyncFunctionDef)
NESTED = (*FUNCTIONS, ast.Lambda, ast.ListComp, ast.SetComp, ast.DictComp, ast.GeneratorExp)
ERROR_BASES = ["ValueError", "Exception", "LookupError", "RuntimeError", "ArithmeticError", "KeyError", "IndexError"]
READING = ["get", "index", "count"]
COUNTING = ["len", "list", "tuple", "dict", "sorted", "min", "max", "sum", "any", "all", "enumerate", "zip"]


def parents_of(tree):
    """From each node to the node that it stands in."""
    return {child: node for node in ast.walk(tree) for child in ast.iter_child_nodes(node)}


def around(node, parents):
    """The nodes around a node, the innermost one first."""
    found = []
    while node in parents:
        node = parents[node]
        found.append(node)
    return found


def class_nodes(tree):
    return [node for node in ast.walk(tree) if isinstance(node, ast.ClassDef)]


def over_names(node):
    """The names of the decorators of a method."""
    return [over.id for over in node.decorator_list if isinstance(over, ast.Name)]


def base_faults(text):
    """L5: base classes are classes of the file above, imported ones, or one error class of Python."""
    tree = ast.parse(text)
    known = [part.asname or part.name for node in tree.body if isinstance(node, ast.ImportFrom) for part in node.names]
    faults = []
    for node in class_nodes(tree):
        names = [base.id if isinstance(base, ast.Name) else None for base in node.bases]
        if node not in tree.body or node.keywords or len(set(names)) != len(names):
            faults.append(f"{node.lineno}: {node.name}")
        errors = [name for name in names if name in ERROR_BASES]
        if errors and len(names) > 1:
            faults.append(f"{node.lineno}: {node.name} has several bases")
        faults += [f"{node.lineno}: the base {name}" for name in names if name not in known + ERROR_BASES]
        known.append(node.name)
    return faults


def super_faults(text):
    """L5: super stands as super().told(..), directly in the rows of a method, and calls __init__ in __init__ only."""
    tree = ast.parse(text)
    parents = parents_of(tree)
    faults = []
    for node in ast.walk(tree):
        if isinstance(node, ast.Name) and node.id == "super":
            nodes = around(node, parents)
            inside = [outer for outer in nodes if isinstance(outer, NESTED)]
            if not is_super_call(node, nodes) or len(inside) != 1 or not isinstance(inside[0], ast.FunctionDef):
                faults.append(f"{node.lineno}: super")
                continue
            called = nodes[1].attr
            if called.startswith("__") and (called != "__init__" or inside[0].name != "__init__"):
                faults.append(f"{node.lineno}: super().{called}")
            if over_names(inside[0]):
                faults.append(f"{node.lineno}: super under a decorator")
    return faults


def is_super_call(node, nodes):
    """Whether a name is called without arguments, and a method of the result is called."""
    kinds = len(nodes) > 2 and isinstance(nodes[0], ast.Call) and isinstance(nodes[1], ast.Attribute)
    return kinds and nodes[0].func is node and not nodes[0].args and isinstance(nodes[2], ast.Call)


def property_faults(text):
    """L5: a property takes self alone and changes nothing; static and class methods contain no super and no yield."""
    faults = []
    for node in class_nodes(ast.parse(text)):
        methods = [row for row in node.body if isinstance(row, FUNCTIONS)]
        for row in methods:
            parts = list(ast.walk(row))
            if "property" in over_names(row):
                if len(row.args.args) != 1 or row.args.vararg or row.args.kwonlyargs or row.args.kwarg:
                    faults.append(f"{row.lineno}: parameters of {row.name}")
                if any([isinstance(part, (ast.Attribute, ast.Subscript)) and not isinstance(part.ctx, ast.Load)
                        for part in parts]):
                    faults.append(f"{row.lineno}: {row.name} changes something")
            if {"staticmethod", "classmethod"} & set(over_names(row)):
                if any([isinstance(part, (ast.Yield, ast.YieldFrom)) for part in parts]):
                    faults.append(f"{row.lineno}: {row.name} yields")
    return faults


def class_value_faults(text):
    """L5: in the body of a class stand methods and plain class values, each assigned once."""
    faults = []
    for node in class_nodes(ast.parse(text)):
        seen = []
        for at, row in enumerate(node.body):
            docstring = at == 0 and isinstance(row, ast.Expr) and isinstance(row.value, ast.Constant)
            if isinstance(row, ast.Assign):
                names = [target.id if isinstance(target, ast.Name) else None for target in row.targets]
                if len(names) != 1 or names[0] in [None, *seen] or not is_plain(row.value) or is_error(node):
                    faults.append(f"{row.lineno}: a class value")
                seen += names
            elif not docstring and not isinstance(row, (ast.FunctionDef, ast.Pass)):
                faults.append(f"{row.lineno}: {row.__class__.__name__} in a class")
    return faults


def is_error(node):
    return any([isinstance(base, ast.Name) and base.id in ERROR_BASES for base in node.bases])


def is_plain(node):
    if isinstance(node, ast.UnaryOp) and isinstance(node.op, ast.USub):
        return isinstance(node.operand, ast.Constant)
    if isinstance(node, ast.Tuple):
        return all([is_plain(part) for part in node.elts])
    return isinstance(node, ast.Constant)


def star_faults(text):
    """L7: behind a star of a call stand names, attributes off a name, literals, and lists and tuples of these."""
    faults = []
    for node in ast.walk(ast.parse(text)):
        if isinstance(node, ast.Call):
            starred = [part.value for part in node.args if isinstance(part, ast.Starred)]
            named = [part.value for part in node.keywords if part.arg is None]
            faults += [f"{part.lineno}: behind a star" for part in starred if not is_simple(part)]
            faults += [f"{part.lineno}: behind two stars" for part in named
                       if not isinstance(part, (ast.Name, ast.Attribute))]
            if named and len(node.keywords) > 1:
                faults.append(f"{node.lineno}: a keyword beside two stars")
    return faults


def is_simple(node):
    if isinstance(node, (ast.List, ast.Tuple)):
        return all([is_simple(part) for part in node.elts])
    if isinstance(node, ast.Attribute):
        return isinstance(node.value, ast.Name)
    return isinstance(node, (ast.Name, ast.Constant))


def class_use_faults(text):
    """L18: a class is called, is a base class, is read, or stands in isinstance, except, raise or an annotation."""
    tree = ast.parse(text)
    parents = parents_of(tree)
    names = [node.name for node in class_nodes(tree)]
    imported = [part.asname or part.name for node in tree.body if isinstance(node, ast.ImportFrom) for part in node.names]
    names += [name for name in imported if name[:1].isupper() and not name.isupper()]
    faults = []
    for node in ast.walk(tree):
        if isinstance(node, ast.Name) and node.id in names and isinstance(node.ctx, ast.Load):
            if not is_class_use(node, around(node, parents)):
                faults.append(f"{node.lineno}: {node.id} as a value")
    return faults


def is_class_use(node, nodes):
    parent = nodes[0]
    if isinstance(parent, ast.Tuple):
        parent = nodes[1]
    if isinstance(parent, ast.Call):
        tested = isinstance(parent.func, ast.Name) and parent.func.id == "isinstance" and node is not parent.args[0]
        return parent.func is node or tested
    return isinstance(parent, (ast.ClassDef, ast.Attribute, ast.ExceptHandler, ast.arg, ast.AnnAssign))


def table_faults(text):
    """L3, L15: lists and dicts at module level contain no list or dict, and functions only read them."""
    tree = ast.parse(text)
    parents = parents_of(tree)
    tables = []
    faults = []
    for row in tree.body:
        if isinstance(row, ast.Assign) and isinstance(row.value, (ast.List, ast.Dict)):
            tables.append(row.targets[0].id)
            inner = [part for part in ast.walk(row.value) if isinstance(part, (ast.List, ast.Dict))]
            if len(inner) > 1:
                faults.append(f"{row.lineno}: a table in a table")
    for node in ast.walk(tree):
        if isinstance(node, ast.Name) and node.id in tables and isinstance(node.ctx, ast.Load):
            if not is_reading(node, around(node, parents)):
                faults.append(f"{node.lineno}: {node.id} is more than read")
    return faults


def is_reading(node, nodes):
    parent = nodes[0]
    if isinstance(parent, ast.Subscript):
        called = isinstance(nodes[1], ast.Call) and nodes[1].func is parent
        return isinstance(parent.ctx, ast.Load) and not called
    if isinstance(parent, ast.Attribute):
        return parent.attr in READING
    if isinstance(parent, ast.Call):
        return isinstance(parent.func, ast.Name) and parent.func.id in COUNTING
    return isinstance(parent, (ast.Compare, ast.For, ast.comprehension))


def cause_faults(text):
    """L19: raise .. from is followed by None, the error that is caught, or a local name."""
    faults = []
    for node in ast.walk(ast.parse(text)):
        if isinstance(node, ast.Raise) and node.cause is not None:
            none = isinstance(node.cause, ast.Constant) and node.cause.value is None
            if not none and not isinstance(node.cause, ast.Name):
                faults.append(f"{node.lineno}: raise from")
        if isinstance(node, ast.ExceptHandler) and node.name:
            used = [part for row in node.body for part in ast.walk(row)
                    if isinstance(part, ast.Name) and part.id == node.name and not isinstance(part.ctx, ast.Load)]
            if used:
                faults.append(f"{node.lineno}: {node.name} is assigned")
    return faults


def object_faults(text):
    """All faults of one file."""
    faults = []
    for rule in [base_faults, super_faults, property_faults, class_value_faults, star_faults, class_use_faults,
                 table_faults, cause_faults]:
        faults += rule(text)
    return faults
