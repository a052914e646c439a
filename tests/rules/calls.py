"""The rules of calls, loops, sets, numbers and strings: L11, L13, L22, L23, L24, L25, L27."""

import ast
import io
import re
import tokenize
import warnings

from tests.rules.code import BUILTINS, CLASSES, FUNCTION, METHODS, PYTHON_ERRORS, at, called_name
from tests.rules.files import leads_to
from tests.rules.forms import is_class_name

ONCE = ("zip", "enumerate", "reversed", "range")
VIEWS = ("items", "keys", "values")
TAKERS = ("list", "tuple", "dict", "sorted", "sum", "any", "all", "enumerate", "zip")
KEYWORDS = {"sorted": ("key", "reverse"), "min": ("key", "default"), "max": ("key", "default"), "sum": ("start",),
            "enumerate": ("start",), "zip": ("strict",)}
KEYS = ("len", "int", "str", "abs", "sum", "min", "max", "tuple")
MANY = {"len": (1, 1), "range": (1, 3), "enumerate": (1, 2), "zip": (1, 99), "min": (1, 99), "max": (1, 99),
        "sum": (1, 2), "abs": (1, 1), "sorted": (1, 1), "reversed": (1, 1), "isinstance": (2, 2), "ord": (1, 1),
        "repr": (1, 1), "any": (1, 1), "all": (1, 1), "divmod": (2, 2), "int": (0, 2), "str": (0, 1), "bool": (0, 1),
        "list": (0, 1), "tuple": (0, 1), "dict": (0, 1), "set": (0, 1)}
CHANGERS = ("append", "clear", "extend", "insert", "pop", "remove", "reverse", "setdefault", "update", "add", "discard")


def l11(code):
    """The same on both Pythons: nothing calls itself, so nothing hangs on how deep that may go."""
    calls = {}
    for _, function in code.all(FUNCTION):
        names = {called_name(node) for node in ast.walk(function)}
        names |= {node.func.attr for node in ast.walk(function)
                  if isinstance(node, ast.Call) and isinstance(node.func, ast.Attribute)}
        calls.setdefault(function.name, set()).update(names)
    for file, function in code.all(FUNCTION):
        if function.name != "__init__" and leads_to(calls, function.name, function.name):
            yield at("L11", file, function, f"{function.name} calls itself, round about")


def l13(code):
    """Sets of many numbers, or of -1 and -2, are not written out."""
    for file, node in code.all(ast.Set):
        numbers = [part for part in node.elts if is_integer(part)]
        asked = isinstance(node.parent, ast.Compare) and isinstance(node.parent.ops[-1], (ast.In, ast.NotIn))
        if len(numbers) > 2 and not asked:
            yield at("L13", file, node, "a set of many numbers")
        below = {ast.unparse(part) for part in ast.walk(node) if isinstance(part, ast.UnaryOp)}
        if {"-1", "-2"} <= below:
            yield at("L13", file, node, "a set of -1 and -2")


def is_integer(node):
    """Whether an expression is an integer that is written out."""
    if isinstance(node, ast.UnaryOp):
        node = node.operand
    return isinstance(node, ast.Constant) and isinstance(node.value, int)


def l22(code):
    """Calling builtins and own functions: as many arguments as they take, the keywords they have."""
    for file, node in code.all(ast.Name):
        if node.id in BUILTINS and isinstance(node.ctx, ast.Load) and not is_use_of_builtin(node):
            yield at("L22", file, node, f"{node.id} is a value")
    for file, node in code.all(ast.Call):
        name = called_name(node)
        if name in MANY:
            least, most = MANY[name]
            if not least <= len(node.args) <= most:
                yield at("L22", file, node, f"{name} is passed another number of arguments")
            for keyword in node.keywords:
                if keyword.arg not in KEYWORDS.get(name, ()) or not is_fit_keyword(code, keyword):
                    yield at("L22", file, node, f"{name} with {keyword.arg}")
        if name == "isinstance" and len(node.args) == 2:
            asked = node.args[1].elts if isinstance(node.args[1], ast.Tuple) else [node.args[1]]
            if not all(isinstance(part, ast.Name) and is_class_name(code, part.id) for part in asked):
                yield at("L22", file, node, "isinstance of no class")
        function = called_function(code, name)
        if function is not None and not takes(function, node, name in code.classes):
            yield at("L22", file, node, f"{name} takes other arguments")


def is_use_of_builtin(node):
    """Whether a builtin's name stands where it may."""
    parent = node.parent
    if isinstance(parent, ast.Call) and parent.func is node:
        return True
    if isinstance(parent, ast.keyword):
        return parent.arg == "key" and node.id in KEYS
    if node.id in CLASSES:
        call = parent.parent if isinstance(parent, ast.Tuple) else parent
        return called_name(call) == "isinstance"
    if isinstance(parent, ast.Tuple):
        parent = parent.parent
    return node.id in PYTHON_ERRORS and isinstance(parent, (ast.ClassDef, ast.ExceptHandler, ast.Raise))


def is_fit_keyword(code, keyword):
    """Whether a builtin's keyword has such a value."""
    if keyword.arg in ("reverse", "strict"):
        return isinstance(keyword.value, ast.Constant) and isinstance(keyword.value.value, bool)
    if keyword.arg == "key":
        return isinstance(keyword.value, ast.Name) and keyword.value.id in KEYS + tuple(code.functions)
    return True


def called_function(code, name):
    """The own function, or the __init__ of the own class, that a name calls, if there is one."""
    if name in code.functions:
        return code.functions[name][1]
    while name in code.classes:
        node = code.classes[name][1]
        for part in node.body:
            if isinstance(part, FUNCTION) and part.name == "__init__":
                return part
        name = getattr(node.bases[0], "id", None) if node.bases else None
    return None


def takes(function, call, without_own):
    """Whether a function takes what a call passes, no more and no less."""
    names = [arg.arg for arg in function.args.args][1 if without_own else 0:]
    if len(call.args) > len(names):
        return False
    given = names[:len(call.args)]
    for keyword in call.keywords:
        if keyword.arg not in names or keyword.arg in given:
            return False
        given.append(keyword.arg)
    needed = names[:len(names) - len(function.args.defaults)]
    return all(name in given for name in needed)


def l23(code):
    """What is iterated at once, and not changed meanwhile."""
    for file, node in code.all(ast.Call):
        viewed = isinstance(node.func, ast.Attribute) and node.func.attr in VIEWS
        if (called_name(node) in ONCE or viewed) and not is_iterated(node):
            yield at("L23", file, node, "is not iterated at once")
    for file, node in code.all(ast.Yield, ast.YieldFrom, ast.GeneratorExp):
        yield at("L23", file, node, "a generator")
    for file, node in code.all(ast.For):
        gone_over = {ast.unparse(part) for part in sources(node.iter)}
        for part in ast.walk(ast.Module(body=node.body + node.orelse, type_ignores=[])):
            if changed(part) in gone_over:
                yield at("L23", file, part, "what a loop goes over is changed in it")


def is_iterated(node):
    """Whether a call of zip, range, items and such stands where it is iterated on the spot."""
    parent = node.parent
    if isinstance(parent, (ast.For, ast.comprehension)):
        return parent.iter is node
    if isinstance(parent, ast.Compare):
        return called_name(node) == "range" and isinstance(parent.ops[-1], (ast.In, ast.NotIn))
    name = called_name(parent)
    if name in ("min", "max"):
        return len(parent.args) == 1 and all(keyword.arg == "default" for keyword in parent.keywords)
    if name in ("len", "reversed") and called_name(node) == "range":
        return True
    joins = isinstance(parent, ast.Call) and isinstance(parent.func, ast.Attribute) and parent.func.attr == "join"
    return node in getattr(parent, "args", []) and (name in TAKERS and (name == "zip" or parent.args[0] is node) or joins)


def sources(node):
    """What a loop goes over: itself, or what stands in enumerate, zip, reversed, items and such."""
    if isinstance(node, ast.Call):
        if called_name(node) in ONCE:
            return [part for arg in node.args for part in sources(arg)]
        if isinstance(node.func, ast.Attribute) and node.func.attr in VIEWS:
            return [node.func.value]
        return []
    return [node] if isinstance(node, (ast.Name, ast.Attribute, ast.Subscript)) else []


def changed(node):
    """The text of what a node changes: by a method, or by an assignment to its item; None where it changes nothing."""
    if isinstance(node, ast.Call) and isinstance(node.func, ast.Attribute) and node.func.attr in CHANGERS:
        return ast.unparse(node.func.value)
    if isinstance(node, ast.Subscript) and isinstance(node.ctx, ast.Store):
        return ast.unparse(node.value)
    return None


def l24(code):
    """Sets: asked for what is in them, compared, sorted or counted, where they are made."""
    for file, node in code.all(ast.Set, ast.SetComp, ast.Call):
        if isinstance(node, ast.Call) and called_name(node) != "set":
            continue
        parent = node.parent
        if isinstance(parent, ast.Compare):
            signs = (ast.In, ast.NotIn) if parent.comparators[-1] is node else ()
            both = all(is_set(side) for side in [parent.left] + parent.comparators)
            fit = isinstance(parent.ops[-1], signs) or both and isinstance(parent.ops[-1], (ast.Eq, ast.NotEq))
        else:
            fit = called_name(parent) in ("sorted", "len") and not parent.keywords
        if not fit:
            yield at("L24", file, node, "a set is kept or iterated")
        if isinstance(node, ast.Call) and node.args and is_set(node.args[0]):
            yield at("L24", file, node, "a set of a set")


def is_set(node):
    """Whether an expression makes a set."""
    return isinstance(node, (ast.Set, ast.SetComp)) or called_name(node) == "set"


def l25(code):
    """Methods of builtin values: these alone, called where they stand, without keywords."""
    for file, node in code.all(ast.Call):
        if isinstance(node.func, ast.Attribute):
            name = node.func.attr
            if name not in METHODS and name not in code.methods:
                yield at("L25", file, node, name)
            if name in METHODS and node.keywords:
                yield at("L25", file, node, f"{name} with a keyword")
            if name in VIEWS and node.args:
                yield at("L25", file, node, f"{name} with an argument")
    for file, node in code.all(ast.Attribute):
        called = isinstance(node.parent, ast.Call) and node.parent.func is node
        if isinstance(node.ctx, ast.Load) and node.attr in METHODS and node.attr not in code.attributes and not called:
            yield at("L25", file, node, f"{node.attr} is passed on")


def l27(code):
    """Numbers and strings."""
    for file, node in code.all(ast.BinOp, ast.AugAssign):
        power = node.right if isinstance(node, ast.BinOp) else node.value
        if isinstance(node.op, ast.Pow):
            if not isinstance(power, ast.Constant) or power.value not in range(65):
                yield at("L27", file, node, "an exponent")
    for file, node in code.all(ast.Constant):
        if isinstance(node.value, str):
            yield from odd_string(file, node)
        elif isinstance(node.value, int) and abs(node.value) >= 10 ** 900:
            yield at("L27", file, node, "a number of too many digits")
    for file, node in code.all(ast.Name):
        if node.id in ("chr", "pow"):
            yield at("L27", file, node, node.id)
    for file, node in code.all(ast.JoinedStr):
        inner = [part for value in node.values if isinstance(value, ast.FormattedValue)
                 for part in ast.walk(value.value)]
        if any(isinstance(part, ast.Constant) and isinstance(part.value, str) for part in inner):
            yield at("L27", file, node, "a string in the braces")
    for file, text in code.texts.items():
        yield from odd_tokens(file, text)
        with warnings.catch_warnings(record=True) as told:
            warnings.simplefilter("always")
            compile(text, file, "exec")
        for warning in told:
            yield f"L27 {file}:{warning.lineno} {warning.message}"


def odd_string(file, node):
    """What is wrong with a string's signs."""
    text = node.value
    if "%" in text or text.endswith(("._", ".__")):
        yield at("L27", file, node, "a percent sign, or an end that may not be")
    dunder = text.startswith("__") and text.endswith("__") and text != "__main__"
    frames = r"\b(f|tb|co|gi)_[a-z]+\b"
    dotted = "{" in text or "." in text and " " not in text
    if dunder or re.fullmatch(frames, text) or dotted and re.search(r"\b__|" + frames, text):
        yield at("L27", file, node, "a name that no string has")


def odd_tokens(file, text):
    """Escapes that are not allowed."""
    for token in tokenize.generate_tokens(io.StringIO(text).readline):
        if token.type == tokenize.STRING and re.search(r"\\[^nt\\'\"]", token.string.replace("\\\\", "")):
            yield f"L27 {file}:{token.start[0]} an escape"

