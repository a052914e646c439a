"""The files of a package, read: their texts, their trees, and what they define."""

import ast
import builtins
import warnings

PACKAGE = "leftspaces"
ALL_BUILTINS = tuple(name for name in dir(builtins) if not name.startswith("_"))
PYTHON_ERRORS = ("Exception", "ValueError", "TypeError", "KeyError", "IndexError", "LookupError", "ZeroDivisionError",
                 "ArithmeticError", "OverflowError", "RuntimeError", "NotImplementedError")
CLASSES = ("int", "str", "bool", "list", "tuple", "dict", "set")
BUILTINS = CLASSES + PYTHON_ERRORS + (
    "len", "range", "enumerate", "zip", "min", "max", "sum", "abs", "sorted", "reversed", "isinstance", "ord", "repr",
    "any", "all", "divmod")
METHODS = tuple((
    "append clear copy count endswith extend find get index insert isalnum isalpha isdigit islower isspace isupper "
    "items join keys ljust lower lstrip partition pop remove replace reverse rfind rjust rpartition rsplit rstrip "
    "setdefault split splitlines startswith strip update upper values zfill bit_length").split())
DUNDERS = ("__init__", "__eq__", "__ne__", "__len__", "__str__")
FUNCTION = ast.FunctionDef
COMPREHENSIONS = (ast.ListComp, ast.SetComp, ast.DictComp)


def parsed(text):
    """The tree of a text, in which each node knows its parent."""
    with warnings.catch_warnings():
        # A text that Python warns of is told by L27.
        warnings.simplefilter("ignore")
        tree = ast.parse(text)
    tree.parent = None
    for node in ast.walk(tree):
        for child in ast.iter_child_nodes(node):
            child.parent = node
    return tree


class Code:
    """A package by its files' names and texts; others are names of what stands in its folder beside them."""

    def __init__(self, texts, others=()):
        self.texts = texts
        self.others = others
        self.trees = {file: parsed(text) for file, text in texts.items()}
        self.classes = {node.name: (file, node) for file, node in self.all(ast.ClassDef)}
        self.functions = {node.name: (file, node) for file, node in self.all(FUNCTION)
                          if isinstance(node.parent, ast.Module)}
        self.methods = {node.name for _, node in self.all(FUNCTION) if isinstance(node.parent, ast.ClassDef)}
        self.attributes = {node.attr for _, node in self.all(ast.Attribute) if isinstance(node.ctx, ast.Store)}

    def all(self, *kinds):
        """Each node of such a kind, with its file."""
        for file, tree in self.trees.items():
            for node in ast.walk(tree):
                if isinstance(node, kinds):
                    yield file, node


def read_folder(folder):
    """The package in a folder, without what Python itself leaves there."""
    texts = {}
    others = []
    for path in sorted(folder.iterdir()):
        if path.is_file() and path.suffix == ".py":
            texts[path.name] = path.read_bytes().decode("utf-8")
        elif path.name != "__pycache__":
            others.append(path.name)
    return Code(texts, others)


def at(rule, file, node, why):
    """How a finding is told."""
    return f"{rule} {file}:{getattr(node, 'lineno', 0)} {why}"


def around(node, *kinds):
    """The nearest node of such a kind around a node, or None."""
    node = node.parent
    while node is not None and not isinstance(node, kinds):
        node = node.parent
    return node


def is_docstring(node):
    """Whether a statement is the docstring of what it stands in."""
    holder = node.parent
    return (isinstance(node, ast.Expr) and isinstance(node.value, ast.Constant) and isinstance(node.value.value, str)
            and isinstance(holder, (ast.Module, ast.ClassDef, FUNCTION)) and holder.body[0] is node)


def is_plain(node, holders=(ast.Tuple,)):
    """Whether an expression is a plain value, or holders of such."""
    if isinstance(node, ast.UnaryOp) and isinstance(node.op, ast.USub):
        node = node.operand
        return isinstance(node, ast.Constant) and isinstance(node.value, int)
    if isinstance(node, holders):
        return all(is_plain(part, holders) for part in node.elts)
    return isinstance(node, ast.Constant) and isinstance(node.value, (int, str, type(None)))


def parameters(function):
    """The names of a function's parameters."""
    args = function.args
    more = [arg for arg in (args.vararg, args.kwarg) if arg is not None]
    return [arg.arg for arg in args.posonlyargs + args.args + args.kwonlyargs + more]


def locals_of(function):
    """Every name that a function binds: parameters, variables, those of comprehensions and handlers."""
    names = set(parameters(function))
    for node in ast.walk(function):
        if isinstance(node, ast.Name) and isinstance(node.ctx, ast.Store):
            names.add(node.id)
        elif isinstance(node, ast.ExceptHandler) and node.name is not None:
            names.add(node.name)
    return names


def module_names(tree):
    """Every name that a module binds, as often as it does."""
    names = []
    for node in tree.body:
        if isinstance(node, (FUNCTION, ast.ClassDef)):
            names.append(node.name)
        elif isinstance(node, (ast.ImportFrom, ast.Import)):
            names += [alias.asname or alias.name for alias in node.names]
        elif isinstance(node, ast.Assign):
            names += [target.id for target in node.targets if isinstance(target, ast.Name)]
    return names


def imported(tree):
    """The names that a module imports."""
    return [alias.asname or alias.name for node in tree.body if isinstance(node, (ast.ImportFrom, ast.Import))
            for alias in node.names]


def called_name(node):
    """The bare name that a call calls, or None."""
    if isinstance(node, ast.Call) and isinstance(node.func, ast.Name):
        return node.func.id
    return None


def identifiers(code):
    """Every name in the code with its file and node: variables, parameters, attributes, keywords, imports."""
    for file, node in code.all(ast.AST):
        if isinstance(node, ast.Name):
            yield file, node, node.id
        elif isinstance(node, ast.arg):
            yield file, node, node.arg
        elif isinstance(node, (FUNCTION, ast.ClassDef)):
            yield file, node, node.name
        elif isinstance(node, ast.Attribute):
            yield file, node, node.attr
        elif isinstance(node, (ast.keyword, ast.ExceptHandler)):
            name = node.arg if isinstance(node, ast.keyword) else node.name
            if name is not None:
                yield file, node, name
        elif isinstance(node, ast.alias):
            yield file, node, node.asname or node.name


def bindings(code):
    """Each name that is bound as a function, a class, at module level, a parameter or a variable, with its file."""
    for file, tree in code.trees.items():
        for name in module_names(tree):
            yield file, tree, name
    for file, function in code.all(FUNCTION):
        for name in locals_of(function):
            yield file, function, name
