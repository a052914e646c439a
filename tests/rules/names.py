"""The rules of names: L8, L12, L15, L17, L18, L26."""

import ast
import io
import re
import tokenize

from tests.rules.code import (ALL_BUILTINS, BUILTINS, DUNDERS, FUNCTION, METHODS, around, at, bindings, called_name,
                              identifiers, imported, is_docstring, locals_of, module_names)

BARRED_STARTS = ("_wall", "_pe_", "_dcw_", "_enum_", "_cm_", "_twin_re_", "_lay_", "_law_", "_stub_", "_sre",
                 "_WallAttr")
BARRED_WHOLE = r"(_cold|_tuplegetter|_outside|_record|_written_out|_member_names)[0-9_]*"
NOWHERE = ("register", "mro", "elements", "open", "input", "law", "version_info", "with_traceback", "add_note")
FRAMES = r"(f|tb|co|gi|cr|ag)_[a-z]+"
NO_NAMES = ("attrgetter", "breakpoint", "builtins", "compile", "copyright", "credits", "delattr", "dir", "eval", "exec",
            "exit", "gc", "getattr", "globals", "hasattr", "help", "id", "importlib", "license", "locals",
            "methodcaller", "os", "quit", "setattr", "super", "type", "vars", "sys", "__name__")
NO_WORDS = ("type", "typing", "typing_extensions", "enum", "Enum", "IntEnum", "StrEnum", "Flag", "IntFlag", "Generic",
            "Protocol", "ABC", "ABCMeta", "namedtuple", "NamedTuple", "TypedDict", "TYPE_CHECKING", "abstractmethod")
NO_PARTS = ("dataclass", "overload", "contextmanager")
NO_ATTRIBUTES = ("items", "keys", "values", "pop", "update", "append", "clear", "extend", "insert", "remove",
                 "reverse", "setdefault", "sort", "args", "encode", "decode", "hex", "fromhex", "format",
                 "as_integer_ratio", "bit_count", "conjugate", "from_bytes", "is_integer", "to_bytes")
VALUE_METHODS = {name for kind in (str, int, list, dict, set, bytes, tuple) for name in dir(kind)}


def l8(code):
    """Builtins: no others, and none with another meaning."""
    for file, node in code.all(ast.Name):
        if isinstance(node.ctx, ast.Load) and node.id not in BUILTINS:
            function = around(node, FUNCTION)
            known = module_names(code.trees[file]) + (list(locals_of(function)) if function else [])
            if node.id not in known:
                yield at("L8", file, node, f"{node.id} is no name here")
    for file, node, name in bindings(code):
        if name in BUILTINS:
            yield at("L8", file, node, f"{name} has another meaning")
    for file, node in code.all(FUNCTION):
        if node.name in BUILTINS:
            yield at("L8", file, node, f"{node.name} has another meaning")
    for file, node, name in identifiers(code):
        if name.startswith("__") and name not in DUNDERS:
            yield at("L8", file, node, name)
    for file, node in code.all(ast.Attribute):
        if node.attr in ("format", "format_map", "mro", "__class__", "__name__"):
            yield at("L8", file, node, node.attr)


def l12(code):
    """Plain names."""
    for file, node, name in identifiers(code):
        if name not in DUNDERS and not re.fullmatch(r"_?[A-Za-z][A-Za-z0-9_]*|_|\*", name):
            yield at("L12", file, node, name)
        if name.startswith(BARRED_STARTS) or re.fullmatch(BARRED_WHOLE, name):
            yield at("L12", file, node, name)
        if name == "_" and (isinstance(getattr(node, "ctx", None), ast.Load) or around(node, FUNCTION) is None):
            yield at("L12", file, node, "_ is read")
    for file, node in code.all(ast.ClassDef):
        if node.name.startswith("_"):
            yield at("L12", file, node, node.name)
    for file, text in code.texts.items():
        if "_wall" in text or "_WallAttr" in text:
            yield f"L12 {file} has a barred word"


def l15(code):
    """One binding for each name, and no state at module level."""
    for file, tree in code.trees.items():
        names = module_names(tree)
        for name in set(names):
            if names.count(name) > 1:
                yield f"L15 {file} binds {name} twice"
        for node in tree.body:
            if isinstance(node, ast.Assign) and not isinstance(node.value, (ast.Constant, ast.Tuple, ast.UnaryOp)):
                yield at("L15", file, node, "state at module level")
    for file, node in code.all(FUNCTION):
        tree = code.trees[file]
        taken = imported(tree) + [other.name for other in tree.body if isinstance(other, ast.ClassDef)]
        for name in locals_of(node):
            if name in taken:
                yield at("L15", file, node, f"{name} is a class or an import of its file")
    for file, node, name in bindings(code):
        if name in ALL_BUILTINS:
            yield at("L15", file, node, f"{name} is a builtin")
    for file, node in code.all(ast.ClassDef):
        if not isinstance(node.parent, ast.Module):
            yield at("L15", file, node, "a class not at module level")


def l17(code):
    """Names that are not used."""
    for file, node, name in identifiers(code):
        if name in NOWHERE or re.fullmatch(FRAMES, name):
            yield at("L17", file, node, name)
        if name in NO_NAMES and not isinstance(node, ast.Attribute):
            yield at("L17", file, node, name)
    for file, text in code.texts.items():
        for number, word in words_of(code.trees[file], text):
            parts = [part for part in NO_PARTS if part in word]
            if parts or [part for part in re.findall(r"\w+", word) if part in NO_WORDS]:
                yield f"L17 {file}:{number} {word}"


def words_of(tree, text):
    """Each name and string of a text with its line, but docstrings; and without "type" in a string."""
    docstrings = {node.lineno for node in ast.walk(tree) if isinstance(node, ast.Expr) and is_docstring(node)}
    for token in tokenize.generate_tokens(io.StringIO(text).readline):
        if token.type == tokenize.NAME:
            yield token.start[0], token.string
        elif token.type not in (tokenize.COMMENT, tokenize.OP) and token.start[0] not in docstrings:
            yield token.start[0], re.sub(r"\btype\b", "", token.string)


def l18(code):
    """Classes: only called, based upon, asked for or raised; their methods and attributes."""
    for file, node in code.all(ast.Name):
        if node.id in code.classes and isinstance(node.ctx, ast.Load) and not is_use_of_class(node):
            yield at("L18", file, node, f"{node.id} is kept or passed on")
    for file, node in code.all(ast.ClassDef):
        methods = [part.name for part in node.body if isinstance(part, FUNCTION)]
        if len(set(methods)) < len(methods):
            yield at("L18", file, node, "a method twice")
        if set(methods) & code.attributes:
            yield at("L18", file, node, "a name of a method and of an attribute")
        for base in node.bases:
            if isinstance(base, ast.Name) and base.id in ("StopIteration", "AttributeError"):
                yield at("L18", file, node, base.id)
    for file, node in code.all(ast.Attribute):
        owner = node.value.id if isinstance(node.value, ast.Name) else None
        function = around(node, FUNCTION)
        if isinstance(node.ctx, ast.Store) and (function is None or owner not in locals_of(function)):
            yield at("L18", file, node, "assigned not through a local name")
        if isinstance(node.ctx, ast.Load) and node.attr not in code.attributes | code.methods | set(METHODS):
            if node.attr != "__init__":
                yield at("L18", file, node, f"{node.attr} is assigned by no class")


def is_use_of_class(node):
    """Whether a class's name stands where it may."""
    parent = node.parent
    if isinstance(parent, ast.Call):
        asked = called_name(parent) == "isinstance" and len(parent.args) == 2 and parent.args[1] is node
        return parent.func is node or asked
    if isinstance(parent, ast.Tuple):
        return isinstance(parent.parent, ast.ExceptHandler) or called_name(parent.parent) == "isinstance"
    if isinstance(parent, ast.Attribute):
        return parent.attr == "__init__"
    return isinstance(parent, (ast.ClassDef, ast.ExceptHandler, ast.Raise))


def l26(code):
    """Own methods and attributes: no names of Python's own values."""
    for file, node in code.all(FUNCTION):
        if isinstance(node.parent, ast.ClassDef) and not node.name.startswith("__"):
            if node.name in VALUE_METHODS and node.name not in METHODS + ("add", "discard"):
                yield at("L26", file, node, node.name)
    for file, node in code.all(ast.Attribute):
        if isinstance(node.ctx, ast.Store) and node.attr in NO_ATTRIBUTES:
            yield at("L26", file, node, node.attr)
