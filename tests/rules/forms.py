"""The rules of functions, classes, statements and expressions: L4, L5, L6, L7, L19, L20, L21, L28."""

import ast

from tests.rules.code import (CLASSES, COMPREHENSIONS, DUNDERS, FUNCTION, PYTHON_ERRORS, around, at, called_name,
                              is_docstring, is_plain, parameters)
from tests.rules.operators import changes, reached

STATEMENTS = (FUNCTION, ast.ClassDef, ast.ImportFrom, ast.Assign, ast.AugAssign, ast.If, ast.While, ast.For, ast.Return,
              ast.Break, ast.Continue, ast.Pass, ast.Raise, ast.Assert, ast.Expr, ast.Try)
EXPRESSIONS = (ast.Constant, ast.BinOp, ast.UnaryOp, ast.Compare, ast.BoolOp, ast.IfExp, ast.Call, ast.Attribute,
               ast.Subscript, ast.Slice, ast.Tuple, ast.List, ast.Dict, ast.Set, ast.Name, ast.JoinedStr,
               ast.FormattedValue) + COMPREHENSIONS
OPERATORS = (ast.Add, ast.Sub, ast.Mult, ast.FloorDiv, ast.Mod, ast.Pow, ast.LShift, ast.RShift, ast.BitAnd, ast.BitOr,
             ast.BitXor)


def l4(code):
    """Functions: no decorators, no stars, plain defaults, none nested."""
    for file, node in code.all(FUNCTION, ast.AsyncFunctionDef, ast.Lambda):
        if not isinstance(node, FUNCTION) or not isinstance(node.parent, (ast.Module, ast.ClassDef)):
            yield at("L4", file, node, "a lambda, or a nested function")
            continue
        args = node.args
        if node.decorator_list or args.vararg or args.kwarg or args.posonlyargs or args.kwonlyargs:
            yield at("L4", file, node, "a decorator, a star, or a /")
        if not all(is_plain(value) for value in args.defaults):
            yield at("L4", file, node, "a default that is not plain")


def l5(code):
    """Classes: methods alone, and one base."""
    for file, node in code.all(ast.ClassDef):
        if node.decorator_list or node.keywords or len(node.bases) > 1:
            yield at("L5", file, node, "a decorator, a keyword, or several bases")
        for base in node.bases:
            if not isinstance(base, ast.Name) or not is_base(code, file, node, base.id):
                yield at("L5", file, node, "a base that is none")
        for part in node.body:
            if isinstance(part, FUNCTION):
                if part.name.startswith("__") and part.name not in DUNDERS:
                    yield at("L5", file, part, part.name)
                if not parameters(part):
                    yield at("L5", file, part, "a method without its own object")
            elif not is_docstring(part):
                yield at("L5", file, part, "stands in a class")
    for file, function in reached(code):
        for node, why in changes(function):
            yield at("L5", file, node, f"an operator leads here, and it {why}")


def is_base(code, file, node, name):
    """Whether a name is that of an error class of Python, or of an own class above."""
    if name in PYTHON_ERRORS:
        return True
    if name not in code.classes:
        return False
    other_file, other = code.classes[name]
    return other_file != file or other.lineno < node.lineno


def l6(code):
    """Statements, and their targets."""
    for file, node in code.all(ast.stmt):
        if not isinstance(node, STATEMENTS):
            yield at("L6", file, node, node.__class__.__name__)
        if isinstance(node, ast.Expr) and not isinstance(node.value, ast.Call) and not is_docstring(node):
            yield at("L6", file, node, "an expression on its own")
        if isinstance(node, ast.Try) and node.finalbody:
            yield at("L6", file, node, "finally")
        if isinstance(node, ast.Assert) and isinstance(node.test, ast.Tuple):
            yield at("L6", file, node, "assert of a tuple")
        if isinstance(node, ast.Assign) and not all(is_target(target) for target in node.targets):
            yield at("L6", file, node, "a target")
        if isinstance(node, ast.AugAssign) and (isinstance(node.target, ast.Subscript)
                                                and isinstance(node.target.slice, ast.Slice)):
            yield at("L6", file, node, "+= on a slice")
        if isinstance(node, ast.For) and not is_target(node.target):
            yield at("L6", file, node, "a target")


def is_target(node):
    """Whether it is a name, an item, a slice, an attribute, or a tuple of such."""
    if isinstance(node, ast.Tuple):
        return all(is_target(part) for part in node.elts)
    return isinstance(node, (ast.Name, ast.Subscript, ast.Attribute))


def l7(code):
    """Values and expressions."""
    for file, node in code.all(ast.expr):
        if not isinstance(node, EXPRESSIONS):
            yield at("L7", file, node, node.__class__.__name__)
        if isinstance(node, ast.Constant) and not isinstance(node.value, (int, str, type(None))):
            yield at("L7", file, node, "a value of another kind")
        if isinstance(node, COMPREHENSIONS):
            yield from odd_comprehension(file, node)
        if isinstance(node, ast.FormattedValue) and (node.format_spec is not None or node.conversion == ord("a")):
            yield at("L7", file, node, "a format")
        if isinstance(node, ast.Call) and isinstance(node.func, (ast.Constant, ast.List, ast.Tuple, ast.Dict)):
            yield at("L7", file, node, "a literal is called")
        if isinstance(node, ast.Attribute) and node.attr in ("to_bytes", "fromhex", "from_bytes"):
            yield at("L7", file, node, node.attr)
        if isinstance(node, (ast.Set, ast.Dict)) and around(node, FUNCTION) is None:
            yield at("L7", file, node, "not in a function")
        if isinstance(node, ast.Dict) and None in node.keys:
            yield at("L7", file, node, "** in a literal")
        if isinstance(node, ast.Subscript) and isinstance(node.value, (ast.List, ast.Tuple, ast.Constant)):
            yield at("L7", file, node, "a literal is indexed")
    for file, node in code.all(ast.operator):
        if not isinstance(node, OPERATORS):
            yield at("L7", file, node, "an operator")
    for file, node in code.all(ast.keyword):
        if node.arg is None:
            yield at("L7", file, node, "** in a call")


def odd_comprehension(file, node):
    """What is wrong with a comprehension: where it stands, how many for and if it has, its variables' names."""
    function = around(node, FUNCTION)
    inner = [part for part in ast.walk(node) if isinstance(part, ast.comprehension)]
    if function is None or len(inner) > 6 or sum(len(part.ifs) for part in inner) > 12:
        yield at("L7", file, node, "not in a function, or too many for or if")
    if any(part.is_async for part in inner):
        yield at("L7", file, node, "async")
    names = [name.id for part in inner for name in ast.walk(part.target) if isinstance(name, ast.Name)]
    if len(set(names)) < len(names):
        yield at("L7", file, node, "a variable twice")


def l19(code):
    """Errors: raised on the spot, and caught by name."""
    for file, node in code.all(ast.Raise):
        name = called_name(node.exc)
        own = name in code.classes and is_error(code, name)
        if node.exc is None:
            if around(node, ast.ExceptHandler) is None:
                yield at("L19", file, node, "a bare raise outside of a handler")
        elif not own and name not in PYTHON_ERRORS:
            yield at("L19", file, node, "not an error class that is called")
        if node.cause is not None:
            yield at("L19", file, node, "raise .. from")
    for file, node in code.all(ast.ExceptHandler):
        kinds = node.type.elts if isinstance(node.type, ast.Tuple) else [node.type]
        for kind in kinds:
            name = kind.id if isinstance(kind, ast.Name) else None
            if name not in ("KeyError", "ZeroDivisionError") and not (name in code.classes and is_error(code, name)):
                yield at("L19", file, node, "a handler of no own error")


def is_error(code, name):
    """Whether an own class is an error class."""
    for _ in range(100):
        if name in PYTHON_ERRORS:
            return True
        if name not in code.classes or not code.classes[name][1].bases:
            return False
        name = getattr(code.classes[name][1].bases[0], "id", None)
    return False


def l20(code):
    """is: with None, True and False alone."""
    for file, node in code.all(ast.Compare):
        for one, sign, other in zip([node.left] + node.comparators, node.ops, node.comparators):
            plain = [side for side in (one, other) if isinstance(side, ast.Constant) and side.value in (None, True, False)
                     and not isinstance(side.value, str) and side.value.__class__ is not int]
            if isinstance(sign, (ast.Is, ast.IsNot)) and not plain:
                yield at("L20", file, node, "is")


def l21(code):
    """Annotations: none."""
    for file, node in code.all(ast.AnnAssign):
        yield at("L21", file, node, "an annotation")
    for file, node in code.all(ast.arg):
        if node.annotation is not None:
            yield at("L21", file, node, "an annotation")
    for file, node in code.all(FUNCTION):
        if node.returns is not None:
            yield at("L21", file, node, "an annotation")


def l28(code):
    """Double-underscore methods: __init__ tells nothing; each other one is a return of such a form alone."""
    for file, node in code.all(FUNCTION):
        if node.name.startswith("__"):
            if not isinstance(node.parent, ast.ClassDef) or node.name not in DUNDERS:
                yield at("L28", file, node, node.name)
            elif node.name != "__init__":
                body = [part for part in node.body if not is_docstring(part)]
                if len(body) != 1 or not isinstance(body[0], ast.Return) or not has_return_form(node.name, body[0].value):
                    yield at("L28", file, node, f"{node.name} is no return of its form")
            for part in ast.walk(node):
                if node.name == "__init__" and isinstance(part, ast.Return):
                    yield at("L28", file, part, "__init__ returns")
    for file, node in code.all(ast.Attribute):
        if node.attr == "__init__":
            function = around(node, FUNCTION)
            call = node.parent
            of_base = isinstance(node.value, ast.Name) and (node.value.id in code.classes)
            with_self = (isinstance(call, ast.Call) and call.args and isinstance(call.args[0], ast.Name)
                         and function is not None and parameters(function)[:1] == [call.args[0].id])
            if function is None or function.name != "__init__" or not of_base or not with_self:
                yield at("L28", file, node, "__init__ is called otherwise")


def has_return_form(name, value):
    """Whether a double-underscore method of a name may return this."""
    if name == "__len__":
        return called_name(value) == "len" or isinstance(value, ast.Constant) and value.value.__class__ is int
    if name == "__str__":
        text = isinstance(value, ast.Constant) and isinstance(value.value, str)
        return text or isinstance(value, ast.JoinedStr) or called_name(value) in ("str", "repr")
    if name == "__eq__":
        return isinstance(value, ast.BoolOp) and called_name(value.values[0]) == "isinstance"
    return isinstance(value, ast.UnaryOp) and isinstance(value.op, ast.Not)


def is_class_name(code, name):
    """Whether isinstance may be asked for it."""
    return name in CLASSES or name in code.classes
