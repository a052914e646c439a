"""What operators may do, in a package that has one: they, and all that they lead to, change what they made alone."""

import ast

from tests.rules.code import COMPREHENSIONS, DUNDERS, FUNCTION, called_name, parameters

CHANGERS = ("append", "clear", "extend", "insert", "pop", "remove", "reverse", "setdefault", "update", "add", "discard",
            "sort")
MAKERS = ("list", "dict", "sorted")


def reached(code):
    """Each operator, and each own function or method that one leads to, with its file."""
    owners = {}
    for file, node in code.all(FUNCTION):
        owners.setdefault(node.name, []).append((file, node))
    queue = [pair for name in DUNDERS[1:] for pair in owners.get(name, [])]
    seen = []
    while queue:
        pair = queue.pop()
        if pair in seen:
            continue
        seen.append(pair)
        for node in ast.walk(pair[1]):
            if isinstance(node, ast.Call):
                queue += owners.get(called_name(node) or getattr(node.func, "attr", None), [])
    return seen


def changes(function):
    """Each node by which a function changes what it hasn't made itself, or calls what it was passed, with why."""
    made = made_here(function)
    for node in ast.walk(function):
        if isinstance(node, ast.Attribute) and not isinstance(node.ctx, ast.Load):
            yield node, "changes an attribute"
        if isinstance(node, ast.Subscript) and not isinstance(node.ctx, ast.Load) and not is_made(node.value, made):
            yield node, "changes an item"
        if isinstance(node, ast.AugAssign) and not isinstance(node.value, ast.Constant):
            yield node, "adds on"
        if isinstance(node, ast.Call):
            if called_name(node) in parameters(function):
                yield node, "calls what it was passed"
            if isinstance(node.func, ast.Attribute) and node.func.attr in CHANGERS and not is_made(node.func.value, made):
                yield node, "changes what it hasn't made"


def is_made(node, made):
    """Whether it is a name of what the function has made."""
    return isinstance(node, ast.Name) and node.id in made


def made_here(function):
    """The local variables that are only ever assigned lists and dicts that are new."""
    new, other = set(), set(parameters(function))
    for node in ast.walk(function):
        if isinstance(node, ast.Name) and isinstance(node.ctx, ast.Store):
            holder = node.parent
            plain = isinstance(holder, ast.Assign) and holder.targets == [node]
            (new if plain and is_new(holder.value) else other).add(node.id)
    return new - other


def is_new(value):
    """Whether an expression makes a list or a dict."""
    return isinstance(value, (ast.List, ast.Dict) + COMPREHENSIONS) or called_name(value) in MAKERS
