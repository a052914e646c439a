"""The package keeps to ../shared/LANGUAGE.md, rule by rule; and the rules here find what breaks them."""

import unittest
from pathlib import Path

from tests.rules import calls, files, forms, names
from tests.rules.code import Code, read_folder

FOLDER = Path(__file__).resolve().parent.parent / "leftspaces"
RULES = {
    "L1": files.l1, "L2": files.l2, "L3": files.l3, "L4": forms.l4, "L5": forms.l5, "L6": forms.l6, "L7": forms.l7,
    "L8": names.l8, "L9": files.l9, "L10": files.l10, "L11": calls.l11, "L12": names.l12, "L13": calls.l13,
    "L14": files.l14, "L15": names.l15, "L16": files.l16, "L17": names.l17, "L18": names.l18, "L19": forms.l19,
    "L20": forms.l20, "L21": forms.l21, "L22": calls.l22, "L23": calls.l23, "L24": calls.l24, "L25": calls.l25,
    "L26": names.l26, "L27": calls.l27, "L28": forms.l28,
}

GOOD = '''"""A file."""

from leftspaces.other import Refused, told

MOST = 3
TABLE = (1, -2, ("a", None))


class Box:
    """A box."""

    def __init__(self, rows):
        self.rows = list(rows)
        self.many = 0

    def __len__(self):
        return len(self.rows)

    def __str__(self):
        return f"{pairs(self.rows)} and {self.many}"

    def __eq__(self, other):
        return isinstance(other, Box) and self.rows == other.rows

    def __ne__(self, other):
        return not self == other

    def put(self, row, by=1):
        """Put a row in."""
        if row in self.rows or not isinstance(row, (int, str)):
            raise Refused(row)
        self.rows.append(row)
        self.many += by


def pairs(rows):
    """Pairs."""
    found = {}
    for k, (one, other) in enumerate(zip(rows, rows[1:])):
        found[one] = found.get(one, 0) + (other if other is not None else k)
    first, second = min(rows), max(rows, key=abs)
    if len({row for row in rows}) == len(rows) and 3 in range(MOST) and first < second:
        return sorted([(name, many) for name, many in found.items()], reverse=True)
    return [f"{one} of {second}" for one in rows] + ["-".join(["a"])]


def boxed(rows):
    """A box."""
    box = Box(rows)
    try:
        box.put(told(7), by=2 ** 3)
    except Refused:
        return None
    return box
'''
OTHER = '''class Refused(ValueError):
    def __init__(self, row):
        self.row = row


def told(k):
    return k % 5
'''


def made(text):
    """A package of a file with this text, and one other."""
    return Code({"__init__.py": "", "other.py": OTHER, "some.py": text})


def function(*lines):
    """The text of a function with such lines."""
    return "def f(xs, k):\n" + "".join(f"    {line}\n" for line in lines)


def operator(*lines):
    """The text of a class that is compared, by such lines."""
    return "class A:\n    def __ne__(self, other):\n" + "".join(f"        {line}\n" for line in lines)


BAD = {
    "L2": ["import sys\n", "from os import path\n", "from leftspaces.other import *\n", "from . import other\n",
           "from leftspaces.other import told as t\n", "A = 1\nfrom leftspaces.other import told\n",
           function("from leftspaces.other import told"), "from other import told\n", "from leftspaces import other\n",
           "from leftspaces.nothing import told\n", "from heapq import heappush\n"],
    "L3": ["A, B = 1, 2\n", "A = B = 1\n", "A = len('a')\n", "A = 1 + 1\n", "print(1)\n", "if True:\n    A = 1\n",
           "for k in (1, 2):\n    A = 1\n", "A: int = 1\n", "'doc'\n'more'\n"],
    "L4": ["@told\ndef f():\n    pass\n", "def f(*rest):\n    pass\n", "def f(**more):\n    pass\n",
           "def f(k=[]):\n    pass\n", "def f(k=len('a')):\n    pass\n", function("return lambda x: x"),
           function("def g():", "    pass"), "def f(*, k):\n    pass\n", "async def f():\n    pass\n"],
    "L5": ["@told\nclass A:\n    pass\n", "class A(list):\n    '''a'''\n", "class A(B):\n    '''a'''\n",
           "class A:\n    x = 1\n", "class A:\n    def __hash__(self):\n        return 1\n",
           "class A:\n    def f():\n        return 1\n", "class A(metaclass=B):\n    '''a'''\n",
           "class A(B):\n    '''a'''\n\n\nclass B:\n    '''b'''\n",
           operator("self.n = 1"), operator("self.rows.append(1)"), operator("self.rows[0] = 1"),
           operator("f(self.rows)") + "\n\ndef f(xs):\n    xs.append(1)\n",
           operator("self.f()") + "\n    def f(self):\n        self.n = 1\n",
           operator("f(self.n)") + "\n\ndef f(k):\n    n = [k]\n    n = k\n    n.append(k)\n",
           operator("f(self.n)") + "\n\ndef f(k):\n    return k(1)\n", operator("n = 1", "n += self.n")],
    "L6": [function("global A"), function("xs[0]"), function("with xs:", "    pass"), function("xs[1:] += [k]"),
           function("try:", "    pass", "finally:", "    pass"), function("assert (k, 'a')"), function("first, *r = xs"),
           function("del xs[0]"), "async def f():\n    pass\n", function("match k:", "    case 1:", "        pass")],
    "L7": [function("return 1.5"), function("return k / 2"), function("return b'a'"), function("return 1j"),
           function("return [*xs]"), function("return k @ k"), function("return any(x for x in xs)"),
           function("return f'{k:>5}'"), function("return (j := k)"), function("return f(**xs)"), "A = [k for k in ()]\n",
           function("return [[x for x in x] for x in xs]"), function("return {**xs}"), function("return k.to_bytes(4)"),
           function("return 'ab'(k)"), function("return [1, 2]['a']"), function("return ...")],
    "L8": [function("return hash(k)"), function("return chr(k)"), function("return unknown"), "def sum(k):\n    return k\n",
           function("len = 3"), "class A:\n    def len(self):\n        return 1\n", function("__x = 1"),
           function("return k.__class__"), function("return getattr(k, 'a')"), function("return map(f, xs)")],
    "L9": [function("print(k)"), function("return open(k)"), function("return sys.argv"), function("return input()")],
    "L10": ["A = 1" + " " * 116 + "\n", "A = 1\n" * 400, "def f():\n" + "    pass\n" * 40, "def f():\n\tpass\n"],
    "L11": ["def f(k):\n    return f(k - 1)\n", "def f(k):\n    return g(k)\n\n\ndef g(k):\n    return f(k)\n",
            "class A:\n    def go(self):\n        return self.go()\n"],
    "L12": ["def f_\u00e9():\n    pass\n", "_wallet = 1\n", "_lay_out = 1\n", "_record = 1\n", "_cold_2 = 1\n",
            function("return [_ for _ in xs]"), "class _A:\n    '''a'''\n", "# _wall\n", "def __f():\n    pass\n", "_ = 1\n"],
    "L13": [function("return len({1, 2, 3})"), function("return len({-1, -2})"), function("return k == {1, 2, k, 4}"),
            function("return len({(1, -1), (1, -2)})")],
    "L14": ["# \u00e9\n", "A = '\u2013'\n"],
    "L15": ["A = 1\nA = 2\n", "A = 1\n\n\ndef A():\n    pass\n", "A = [1]\n", "A = {}\n", function("hash = 3"),
            "def f(id):\n    pass\n", "from leftspaces.other import told\n\n\ndef f(told):\n    pass\n",
            "class A:\n    '''a'''\n\n\ndef f():\n    A = 1\n", "def f():\n    class A:\n        '''a'''\n",
            "def map(k):\n    return k\n"],
    "L16": ["from leftspaces.other import nothing\n", "from leftspaces.some import f\n"],
    "L17": [function("register = 1"), function("return k.elements"), "class A:\n    def open(self):\n        return 1\n",
            "def f(type):\n    pass\n", function("return 'an enum'"), function("return k.type"), function("help = 1"),
            function("overloaded = 1"), function("return k.f_back"), function("return f(law=1)")],
    "L18": ["class A:\n    '''a'''\n\n\nB = (A,)\n", "class A:\n    '''a'''\n\n\ndef f():\n    return A\n",
            "class A:\n    def f(self):\n        pass\n\n    def f(self):\n        pass\n",
            "class A:\n    def x(self):\n        self.x = 1\n", "class A(StopIteration):\n    '''a'''\n",
            "class A:\n    '''a'''\n\n\ndef f():\n    A.n = 1\n", function("return k.unknown")],
    "L19": [function("raise k"), function("raise f(xs, k)"), function("raise"), function("raise ValueError('a') from k"),
            function("try:", "    pass", "except Exception:", "    pass"), function("raise ValueError"),
            function("try:", "    pass", "except:", "    pass"), function("raise KeyboardInterrupt()"),
            function("try:", "    pass", "except (KeyError, TypeError):", "    pass"),
            "class A:\n    '''a'''\n\n\ndef f():\n    raise A()\n"],
    "L20": [function("return xs is k"), function("return xs is not 1"), function("return k is 'a'")],
    "L21": ["def f(k: int):\n    pass\n", "def f() -> int:\n    pass\n", function("j: int = 1")],
    "L22": [function("return len"), function("return len(xs, k)"), function("return sorted(xs, reverse=k)"),
            function("return sorted(xs, key=xs)"), function("return isinstance(k, range)"), function("return f(k)"),
            function("return f(xs, k, 1)"), function("return f(xs, k, more=1)"), function("return f(xs, xs=1)"),
            function("return isinstance(k, xs)"), function("return int(x=k)"), function("return [int, str]"),
            "from leftspaces.other import Refused\n\n\ndef f():\n    raise Refused()\n"],
    "L23": [function("it = zip(xs, xs)", "return it"), function("return enumerate(xs)"), function("yield k"),
            function("for x in xs:", "    xs.append(x)"), function("for x in xs:", "    xs[k] = x"),
            function("for j, x in enumerate(xs):", "    xs.pop()"), function("return xs.items()"),
            function("for x in k.rows:", "    k.rows.remove(x)"), function("return len(zip(xs, xs))"),
            function("return list(x for x in xs)"), function("for x in xs.items():", "    xs[x] = 1"),
            function("return min(range(3), xs)"), function("return range(3) == k")],
    "L24": [function("j = set(xs)", "return j"), function("return [x for x in set(xs)]"), function("return set(set(xs))"),
            function("for x in {1, k}:", "    pass"), function("return list({x for x in xs})"),
            function("return set(xs) == k"), function("return {1, k} | set(xs)"), function("return min(set(xs))")],
    "L25": [function("return k.format()"), function("xs.sort()"), function("return k.isprint()"), function("return xs.index"),
            function("return k.split(sep=',')"), function("return xs.items(1)")],
    "L26": ["class A:\n    def encode(self):\n        return 1\n", "class A:\n    def __init__(self):\n        self.args = 1\n",
            "class A:\n    def __init__(self):\n        self.items = 1\n",
            "class A:\n    def bit_count(self):\n        return 1\n"],
    "L27": [function("return k ** k"), function("return 2 ** 65"), function("return '%'"), function("return '\\t\\r'"),
            function("return 'a._'"), function("return '__odd__'"), function("return 'f_code'"), function("return 'a.__x'"),
            function("return chr(k)"), function("return pow(k, 2)"), function("return 1if k else 2"),
            function("return f\"{xs['a']}\""), function("return k ** -1"), "A = 1" + "0" * 901 + "\n"],
    "L28": ["class A:\n    def __init__(self):\n        return None\n", "def __init__(self):\n    pass\n",
            "class A:\n    def __init__(self):\n        return\n",
            "class A:\n    def __len__(self):\n        return self.n\n",
            "class A:\n    def __len__(self):\n        return True\n",
            "class A:\n    def __str__(self):\n        return self.n\n",
            "class A:\n    def __str__(self):\n        n = 1\n        return str(n)\n",
            "class A:\n    def __eq__(self, other):\n        return self.n == other.n\n",
            "class A:\n    def __ne__(self, other):\n        pass\n", "def __len__(self):\n    return 1\n",
            "class A:\n    def f(self):\n        A.__init__(self)\n",
            "class A:\n    '''a'''\n\n\nclass B(A):\n    def __init__(self, other):\n        A.__init__(other)\n"],
}


class Package(unittest.TestCase):
    def test_the_package_keeps_each_rule(self):
        code = read_folder(FOLDER)
        self.assertIn("__init__.py", code.texts)
        for name, rule in RULES.items():
            with self.subTest(name):
                self.assertEqual(list(rule(code)), [])

    def test_each_rule_is_here(self):
        self.assertEqual(list(RULES), [f"L{k}" for k in range(1, 29)])


class Rules(unittest.TestCase):
    def test_what_is_good_is_let_by(self):
        for name, rule in RULES.items():
            with self.subTest(name):
                self.assertEqual(list(rule(made(GOOD))), [])

    def test_what_is_bad_is_found(self):
        for name, texts in BAD.items():
            for text in texts:
                with self.subTest(name, text=text):
                    found = list(RULES[name](made(text)))
                    self.assertTrue(found)
                    self.assertTrue(all(line.startswith(name + " ") for line in found))

    def test_each_rule_has_something_bad(self):
        # What breaks L1 are files' names alone, below.
        self.assertEqual(set(BAD), set(RULES) - {"L1"})

    def test_files_that_may_not_be(self):
        self.assertTrue(list(files.l1(Code({"__init__.py": "", "a-b.py": ""}))))
        self.assertTrue(list(files.l1(Code({"__init__.py": ""}, ["notes.txt"]))))
        for file in ("test_a.py", "Some.py", "sum.py", "tests.py", "law_a.py", "enum.py", "conftest.py"):
            self.assertTrue(list(files.l14(Code({"__init__.py": "", file: ""}))), file)
        self.assertTrue(list(files.l14(Code({"some.py": ""}))))
        many = {f"some{k}.py": "" for k in range(100)}
        self.assertTrue(list(files.l14(Code({"__init__.py": "", **many}))))

    def test_imports_that_go_round(self):
        one = "from leftspaces.other import B\n\nA = 1\n"
        other = "from leftspaces.some import A\n\nB = 1\n"
        self.assertTrue(list(files.l16(Code({"__init__.py": "", "some.py": one, "other.py": other}))))
        hub = "from leftspaces.some import B\n"
        self.assertTrue(list(files.l16(Code({"__init__.py": "", "some.py": hub, "other.py": "B = 1\n"}))))
        self.assertTrue(list(files.l16(Code({"__init__.py": "other = 1\n", "other.py": ""}))))
