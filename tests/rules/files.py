"""The rules of files and imports: L1, L2, L3, L9, L10, L14, L16."""

import ast
import re
import sys

from tests.rules.code import ALL_BUILTINS, FUNCTION, PACKAGE, at, identifiers, is_docstring, is_plain, module_names

BARRED_FILES = ("test", "tests", "testing", "site", "conftest", "sitecustomize", "usercustomize", "typing", "enum",
                "typing_extensions", "heapq", "math", "itertools", "open", "input", "law", "register", "mro", "elements")


def l1(code):
    """Files: .py files with plain names alone."""
    for name in code.others:
        yield f"L1 {name} is no .py file"
    for name in code.texts:
        if not re.fullmatch(r"[A-Za-z0-9_]+\.py", name):
            yield f"L1 {name} is no plain name"


def l2(code):
    """Imports: at the top, from modules of the package alone, by full names."""
    for file, node in code.all(ast.Import):
        yield at("L2", file, node, "import of a module")
    for file, node in code.all(ast.ImportFrom):
        if not isinstance(node.parent, ast.Module):
            yield at("L2", file, node, "not at the top")
            continue
        body = node.parent.body
        ahead = body[:body.index(node)]
        if not all(isinstance(other, ast.ImportFrom) or is_docstring(other) for other in ahead):
            yield at("L2", file, node, "not at the top")
        if node.level or not is_own_module(code, node.module):
            yield at("L2", file, node, "not from a module of the package")
        if any(alias.name == "*" or alias.asname for alias in node.names):
            yield at("L2", file, node, "a star, or another name")


def is_own_module(code, module):
    """Whether a full name is that of a module of the package that may be imported."""
    folder, _, name = (module or "").partition(".")
    return folder == PACKAGE and name != "__main__" and name + ".py" in code.texts


def l3(code):
    """Module level: a docstring, imports, functions, classes, plain values."""
    for file, tree in code.trees.items():
        for node in tree.body:
            if isinstance(node, ast.Assign):
                if len(node.targets) != 1 or not isinstance(node.targets[0], ast.Name) or not is_plain(node.value):
                    yield at("L3", file, node, "no plain value for one name")
            elif not isinstance(node, (ast.ImportFrom, FUNCTION, ast.ClassDef)) and not is_docstring(node):
                yield at("L3", file, node, "stands at module level")


def l9(code):
    """Input and output: none."""
    for file, node, name in identifiers(code):
        if name in ("print", "input", "open", "sys", "stdin", "stdout", "stderr", "argv"):
            yield at("L9", file, node, name)


def l10(code):
    """Size: of functions, files, lines."""
    for file, text in code.texts.items():
        lines = text.splitlines()
        if len(lines) > 399:
            yield f"L10 {file} has {len(lines)} lines"
        for number, line in enumerate(lines, start=1):
            if len(line) > 120 or "\t" in line:
                yield f"L10 {file}:{number} is too long, or has a tab"
    for file, node in code.all(FUNCTION):
        if node.end_lineno - node.lineno + 1 > 40:
            yield at("L10", file, node, f"{node.name} is too long")


def l14(code):
    """Files and characters."""
    if PACKAGE in sys.stdlib_module_names or "__init__.py" not in code.texts or len(code.texts) > 100:
        yield "L14 the package's name, its __init__.py, or how many files"
    for file, text in code.texts.items():
        name = file.partition(".")[0]
        if file != file.lower() or name in BARRED_FILES + ALL_BUILTINS or name.startswith(("law_", "test_")):
            yield f"L14 {file} may not be called so"
        for number, line in enumerate(text.split("\n"), start=1):
            if not all(" " <= sign <= "~" for sign in line):
                yield f"L14 {file}:{number} has another sign"
    strings = [node.value for _, node in code.all(ast.Constant) if isinstance(node.value, str)]
    if sum(map(len, strings)) > 2 * 10 ** 6:
        yield "L14 the strings are too many"


def l16(code):
    """Imports: from the very file that defines the name, and never round."""
    ahead = {}
    for file, tree in code.trees.items():
        ahead[file] = set()
        for node in tree.body:
            if isinstance(node, ast.ImportFrom) and is_own_module(code, node.module):
                other = node.module.partition(".")[2] + ".py"
                ahead[file].add(other)
                defined = defined_names(code.trees[other])
                for alias in node.names:
                    if alias.name not in defined:
                        yield at("L16", file, node, f"{alias.name} is not defined in {other}")
    for file in code.texts:
        if leads_to(ahead, file, file):
            yield f"L16 {file} imports itself, round about"
    files = {file.partition(".")[0] for file in code.texts}
    for name in module_names(code.trees.get("__init__.py", ast.Module(body=[]))):
        if name in files:
            yield f"L16 __init__.py binds {name}"


def defined_names(tree):
    """The names that a module defines itself."""
    own = ast.Module(body=[node for node in tree.body if not isinstance(node, (ast.ImportFrom, ast.Import))])
    return module_names(own)


def leads_to(ahead, start, goal):
    """Whether steps from a start lead to a goal, by at least one step."""
    seen = set()
    queue = list(ahead.get(start, ()))
    while queue:
        step = queue.pop()
        if step == goal:
            return True
        if step not in seen:
            seen.add(step)
            queue += list(ahead.get(step, ()))
    return False
