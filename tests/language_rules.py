"""The rules of LANGUAGE.md that can be seen in the text of a file. Each function returns a list of faults."""

import ast
import builtins
import re

PACKAGE = "lastheld"
LONGEST_FUNCTION = 40
LONGEST_FILE = 399
LONGEST_LINE = 120
MOST_FILES = 100

WHOLE_WORDS = [
    "type", "typing", "typing_extensions", "enum", "Enum", "IntEnum", "StrEnum", "Flag", "IntFlag", "Generic",
    "Protocol", "ABC", "ABCMeta", "namedtuple", "NamedTuple", "TypedDict", "TYPE_CHECKING", "abstractmethod",
]
WORD_PARTS = ["dataclass", "overload", "contextmanager"]
NAMES_NOWHERE = ["register", "mro", "elements", "open", "input", "law", "version_info", "with_traceback", "add_note"]
NAMES_OF_ATTRIBUTES_ONLY = [
    "attrgetter", "breakpoint", "builtins", "compile", "copyright", "credits", "delattr", "dir", "eval", "exec", "exit",
    "gc", "getattr", "globals", "hasattr", "help", "id", "importlib", "license", "locals", "methodcaller", "os", "quit",
    "setattr", "type", "vars",
]
FRAME_NAMES = [
    "f_back", "f_builtins", "f_code", "f_globals", "f_lasti", "f_lineno", "f_locals", "f_trace", "f_trace_lines",
    "f_trace_opcodes", "tb_frame", "tb_lasti", "tb_lineno", "tb_next", "gi_code", "gi_frame", "gi_running",
    "gi_yieldfrom", "gi_suspended", "cr_await", "cr_code", "cr_frame", "cr_origin", "cr_running", "cr_suspended",
]
BUILTINS = [
    "len", "range", "enumerate", "zip", "min", "max", "sum", "abs", "sorted", "reversed", "int", "str", "bool", "bytes",
    "list", "tuple", "dict", "set", "frozenset", "isinstance", "ord", "repr", "any", "all", "divmod", "iter", "next",
    "super", "property", "staticmethod", "classmethod", "Exception", "ValueError", "TypeError", "KeyError", "IndexError",
    "LookupError", "ZeroDivisionError", "ArithmeticError", "OverflowError", "RuntimeError", "NotImplementedError",
    "AttributeError", "StopIteration", "NotImplemented", "object", "float",
]
FUNCTIONS = (ast.FunctionDef, ast.AsyncFunctionDef)


def character_faults(text):
    """L10, L14: no tabs, only the characters from the space to the tilde and line feeds."""
    faults = []
    for at, row in enumerate(text.split("\n"), start=1):
        strange = sorted({sign for sign in row if not " " <= sign <= "~"})
        if strange:
            faults.append(f"{at}: characters {strange}")
    return faults


def length_faults(text):
    """L10: at most 399 lines in a file, 120 characters in a line, 40 lines in a function."""
    rows = text.split("\n")
    if rows[-1] == "":
        rows.pop()
    faults = [f"{at}: {len(row)} characters" for at, row in enumerate(rows, start=1) if len(row) > LONGEST_LINE]
    if len(rows) > LONGEST_FILE:
        faults.append(f"{len(rows)} lines")
    for node in ast.walk(ast.parse(text)):
        if isinstance(node, FUNCTIONS):
            first = min([node.lineno] + [over.lineno for over in node.decorator_list])
            if node.end_lineno - first + 1 > LONGEST_FUNCTION:
                faults.append(f"{first}: {node.name} has {node.end_lineno - first + 1} lines")
    return faults


def word_faults(text):
    """L17: words that do not occur anywhere, comments and strings included."""
    pattern = re.compile(r"\b(" + "|".join(WHOLE_WORDS) + r")\b|" + "|".join(WORD_PARTS))
    faults = []
    for at, row in enumerate(text.split("\n"), start=1):
        faults += [f"{at}: the word {found.group()}" for found in pattern.finditer(row)]
    return faults


def bound_names(node):
    """The names that a node itself binds, as variables, functions, classes, imports and parameters."""
    if isinstance(node, (*FUNCTIONS, ast.ClassDef)):
        return [node.name]
    if isinstance(node, ast.arg):
        return [node.arg]
    if isinstance(node, ast.alias):
        return [node.asname or node.name]
    if isinstance(node, ast.ExceptHandler) and node.name:
        return [node.name]
    if isinstance(node, ast.Name) and isinstance(node.ctx, ast.Store):
        return [node.id]
    return []


def used_names(node):
    """All names that stand in a node itself."""
    if isinstance(node, ast.Name):
        return [node.id]
    if isinstance(node, ast.Attribute):
        return [node.attr]
    if isinstance(node, ast.keyword) and node.arg:
        return [node.arg]
    return bound_names(node)


def name_faults(text):
    """L8, L12, L15, L17: names that are not used, or not given a meaning of their own."""
    faults = []
    tree = ast.parse(text)
    own_methods = {id(row) for node in ast.walk(tree) if isinstance(node, ast.ClassDef) for row in node.body}
    for node in ast.walk(tree):
        at = getattr(node, "lineno", 0)
        for name in used_names(node):
            if name in NAMES_NOWHERE or name in FRAME_NAMES or name.startswith("co_"):
                faults.append(f"{at}: the name {name}")
            if name.startswith("_") and not (name.startswith("__") and name.endswith("__")):
                faults.append(f"{at}: the name {name}")
        for name in bound_names(node):
            if name in NAMES_OF_ATTRIBUTES_ONLY:
                faults.append(f"{at}: the name {name}")
            elif id(node) in own_methods and name not in BUILTINS:
                continue
            elif hasattr(builtins, name) and not name.startswith("__"):
                faults.append(f"{at}: {name} is a builtin")
    return faults


def builtin_faults(text):
    """L8: only the listed builtins are used."""
    tree = ast.parse(text)
    bound = {name for node in ast.walk(tree) for name in bound_names(node)}
    faults = []
    for node in ast.walk(tree):
        if isinstance(node, ast.Name) and node.id not in bound and node.id not in BUILTINS:
            faults.append(f"{node.lineno}: {node.id} is not a builtin that is used")
    return faults


def import_faults(text, defined):
    """L2, L16: imports at the top, from the very file of the package that defines the name.

    defined: from each module of the package to the set of the names that it defines.
    """
    tree = ast.parse(text)
    faults = []
    top = [row for row in tree.body if not is_docstring(row)]
    while top and isinstance(top[0], (ast.Import, ast.ImportFrom)):
        top.pop(0)
    below = {id(node) for row in top for node in ast.walk(row)}
    for node in ast.walk(tree):
        if isinstance(node, ast.Import):
            faults.append(f"{node.lineno}: import without from")
        if isinstance(node, ast.ImportFrom):
            if id(node) in below:
                faults.append(f"{node.lineno}: an import that is not at the top")
            faults += [f"{node.lineno}: {name.name} of {node.module}" for name in node.names
                       if not is_allowed_import(node, name.name, defined)]
    return faults


def is_allowed_import(node, name, defined):
    if node.level != 0:
        return False
    if node.module == "__future__":
        return name == "annotations"
    return name in defined.get(node.module, ())


def is_docstring(row):
    return isinstance(row, ast.Expr) and isinstance(row.value, ast.Constant) and isinstance(row.value.value, str)


def defined_names(text):
    """The names that a file defines at its top by def, class or an assignment."""
    names = set()
    for row in ast.parse(text).body:
        if isinstance(row, (*FUNCTIONS, ast.ClassDef)):
            names.add(row.name)
        elif isinstance(row, ast.Assign):
            names |= {target.id for target in row.targets if isinstance(target, ast.Name)}
    return names


def imported_modules(text):
    """The modules of the package that a file imports from."""
    return [node.module for node in ast.walk(ast.parse(text))
            if isinstance(node, ast.ImportFrom) and node.module != "__future__"]


def circle_faults(texts):
    """L16: no two files import from each other, directly or through others. texts: from modules to their texts."""
    reached = {module: set(imported_modules(text)) for module, text in texts.items()}
    for _ in texts:
        for found in reached.values():
            for module in list(found):
                found |= reached.get(module, set())
    return [f"{module} imports itself" for module in sorted(reached) if module in reached[module]]


def module_level_faults(text):
    """L3: only docstrings, imports, functions, classes, and names that are assigned once, each on its own."""
    faults = []
    seen = set()
    for at, row in enumerate(ast.parse(text).body):
        if isinstance(row, ast.Assign):
            if len(row.targets) != 1 or not isinstance(row.targets[0], ast.Name):
                faults.append(f"{row.lineno}: several targets")
            elif row.targets[0].id in seen:
                faults.append(f"{row.lineno}: {row.targets[0].id} is assigned again")
            else:
                seen.add(row.targets[0].id)
        elif not isinstance(row, (ast.ImportFrom, ast.FunctionDef, ast.ClassDef)):
            if not (at == 0 and is_docstring(row)):
                faults.append(f"{row.lineno}: {row.__class__.__name__} at module level")
    return faults


def statement_faults(text):
    """L6, L7, L20, L27: statements, signs and values that are not used."""
    faults = []
    for node in ast.walk(ast.parse(text)):
        at = getattr(node, "lineno", 0)
        if isinstance(node, (ast.Global, ast.AsyncFunctionDef, ast.AsyncFor, ast.AsyncWith, ast.Await)):
            faults.append(f"{at}: {node.__class__.__name__}")
        if isinstance(node, (ast.BinOp, ast.AugAssign)) and isinstance(node.op, (ast.Div, ast.MatMult)):
            faults.append(f"{at}: a sign that is not used")
        if isinstance(node, ast.BinOp) and isinstance(node.op, ast.Pow) and not is_small_exponent(node.right):
            faults.append(f"{at}: an exponent that is not a literal from 0 to 64")
        if isinstance(node, ast.Constant) and isinstance(node.value, (float, complex)):
            faults.append(f"{at}: {node.value}")
        if isinstance(node, ast.Constant) and isinstance(node.value, str) and "%" in node.value:
            faults.append(f"{at}: a percent sign")
        if isinstance(node, ast.Compare):
            faults += [f"{at}: is" for sign, right in zip(node.ops, node.comparators)
                       if isinstance(sign, (ast.Is, ast.IsNot)) and not is_singleton(right)]
    return faults


def is_small_exponent(node):
    return isinstance(node, ast.Constant) and isinstance(node.value, int) and 0 <= node.value <= 64


def is_singleton(node):
    return isinstance(node, ast.Constant) and (node.value is None or isinstance(node.value, bool))


def file_name_faults(names):
    """L1, L14: one folder of at most 100 files with plain lower-case names, and an __init__.py."""
    faults = []
    for name in names:
        stem = name.removesuffix(".py")
        plain = re.fullmatch(r"[a-z][a-z0-9_]*", stem) or stem in ("__init__", "__main__")
        barred = stem in ("test", "tests", "testing", "site", "conftest", "sitecustomize", "usercustomize")
        barred = barred or stem.startswith(("law_", "test_")) or stem in WHOLE_WORDS + NAMES_NOWHERE
        if not name.endswith(".py") or not plain or barred or hasattr(builtins, stem) and not stem.startswith("__"):
            faults.append(f"the file {name}")
    if "__init__.py" not in names:
        faults.append("no __init__.py")
    if len(names) > MOST_FILES:
        faults.append(f"{len(names)} files")
    return faults


def text_faults(text, defined):
    """All faults of one file."""
    faults = import_faults(text, defined)
    for rule in [character_faults, length_faults, word_faults, name_faults, builtin_faults, module_level_faults,
                 statement_faults]:
        faults += rule(text)
    return faults
