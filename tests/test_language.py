"""The package keeps to LANGUAGE.md, and the check that says so finds what breaks it."""

import pathlib
import unittest

from language import PACKAGE, faults

ROOT = pathlib.Path(__file__).resolve().parent.parent

GOOD = '''"""A file."""

from manypurses.other import Bad, LIMIT

STEP = -2
ROWS = (1, "a", (None, True))


class Thing:
    """A thing."""

    def __init__(self, many):
        self.many = many


class Box(Thing):
    """A box."""

    def __init__(self, many):
        Thing.__init__(self, many)
        self.rows = sorted([1, -2], key=abs, reverse=True)

    def take(self, *, much=LIMIT + 1):
        if much > self.many:
            raise Bad("too much")
        self.many -= much
        return [at for at in range(self.many) if at is not None]

    def add(self, rows):
        for at, row in enumerate(rows):
            if isinstance(row, Box) and row.many in {at, self.many}:
                self.many = len(set(rows))
        return sorted({row.many for row in rows})


def told(boxes):
    first, *rest = boxes
    try:
        return first.take(much=rest[0] ** 2)
    except KeyError:
        return f"{len(rest)} of {STEP}\\n"
'''

OTHER = '''LIMIT = 5


class Bad(ValueError):
    """Bad."""
'''

BROKEN = (
    ("L7", "X = 1.5\n"),
    ("L7", "def f(a):\n    return a / 2\n"),
    ("L7", "def f(a):\n    return sum(*a)\n"),
    ("L7", "def f(a):\n    return f'{a:3}'\n"),
    ("L7", "def f(a):\n    return {**a}\n"),
    ("L6", "def f(a):\n    return sum(x for x in a)\n"),
    ("L6", "def f(a):\n    with a:\n        return 1\n"),
    ("L6", "def f(a):\n    yield a\n"),
    ("L6", "def f(a):\n    global b\n"),
    ("L6", "def f(a):\n    if (b := a):\n        return b\n"),
    ("L6", "async def f(a):\n    return a\n"),
    ("L6", "def f(a):\n    for x in a:\n        pass\n    else:\n        pass\n"),
    ("L6", "def f(a):\n    a\n"),
    ("L6", "import math\n"),
    ("L2", "from math import gcd\n"),
    ("L2", "from manypurses.other import *\n"),
    ("L2", "from .other import LIMIT\n"),
    ("L2", "def f():\n    from manypurses.other import LIMIT\n    return LIMIT\n"),
    ("L2", "X = 1\nfrom manypurses.other import LIMIT\n"),
    ("L16", "from manypurses.nowhere import LIMIT\n"),
    ("L16", "from manypurses.other import nothing\n"),
    ("L3", "X = len('ab')\n"),
    ("L3", "X = [a for a in (1, 2)]\n"),
    ("L3", "print(1)\n"),
    ("L3", "X = {1, 2}\n"),
    ("L15", "X = 1\nX = 2\n"),
    ("L15", "def f(sum):\n    return sum\n"),
    ("L15", "def f(a):\n    next = a\n    return next\n"),
    ("L15", "def f():\n    class A:\n        pass\n"),
    ("L4", "def f(*args):\n    return args\n"),
    ("L4", "def f(**kwargs):\n    return kwargs\n"),
    ("L4", "def f(a, /):\n    return a\n"),
    ("L4", "def f(a=len('a')):\n    return a\n"),
    ("L4", "def g(a):\n    return a\n\n\n@g\ndef f(a):\n    return a\n"),
    ("L5", "class A:\n    x = 1\n"),
    ("L5", "class A:\n    def __hash__(self):\n        return 1\n"),
    ("L5", "class A:\n    pass\n\n\nclass B:\n    pass\n\n\nclass C(A, B):\n    pass\n"),
    ("L18", "class A:\n    def f(self):\n        return 1\n\n    def f(self):\n        return 2\n"),
    ("L18", "class A:\n    def f(self):\n        self.f = 1\n"),
    ("L25", "def f(a):\n    return a.isocalendar()\n"),
    ("L8", "def f(a):\n    return map(len, a)\n"),
    ("L8", "def f(a):\n    return print(a)\n"),
    ("L12", "def f(_a):\n    return _a\n"),
    ("L12", "def f(a):\n    return a.__class__\n"),
    ("L17", "def f(a):\n    return type(a)\n"),
    ("L17", "# its type\n"),
    ("L17", "X = 'an enum'\n"),
    ("L17", "def f(a):\n    return getattr(a, 'b')\n"),
    ("L17", "def f(a):\n    return a.format(1)\n"),
    ("L19", "def f(a):\n    try:\n        return a[0]\n    except:\n        return 0\n"),
    ("L19", "def f(a):\n    try:\n        return a[0]\n    except TypeError:\n        return 0\n"),
    ("L19", "def f(a):\n    raise ValueError\n"),
    ("L20", "def f(a, b):\n    return a is b\n"),
    ("L21", "def f(a: int):\n    return a\n"),
    ("L23", "def f(a):\n    return enumerate(a)\n"),
    ("L23", "def f(a):\n    b = a.items()\n    return list(b)\n"),
    ("L15", "from manypurses.other import LIMIT\n\n\ndef f(LIMIT):\n    return LIMIT\n"),
    ("L15", "class A:\n    pass\n\n\ndef f(a):\n    A = a\n    return A\n"),
    ("L18", "class A:\n    pass\n\n\ndef f(a):\n    return [A]\n"),
    ("L18", "from manypurses.other import Bad\n\n\ndef f(a):\n    return f(Bad)\n"),
    ("L23", "def f(a):\n    for x in a:\n        a.append(x)\n"),
    ("L23", "def f(a):\n    for k, x in enumerate(a):\n        a[k] = x\n"),
    ("L23", "def f(a):\n    for k, x in a.items():\n        a.pop(k)\n"),
    ("L23", "def f(a):\n    for k in a.b:\n        del a.b[k]\n"),
    ("L23", "def f(a):\n    for x in a:\n        if x:\n            a += [x]\n"),
    ("L24", "def f(a):\n    return set(a)\n"),
    ("L24", "def f(a):\n    for x in {k for k in a}:\n        f(x)\n"),
    ("L24", "def f(a):\n    return list({a, 1})\n"),
    ("L24", "def f(a):\n    return sorted(set(a), key=f)\n"),
    ("L26", "class A:\n    def encode(self):\n        return 1\n"),
    ("L26", "class A:\n    def __init__(self):\n        self.values = 1\n"),
    ("L6", "def f(a):\n    try:\n        return a[0]\n    finally:\n        pass\n"),
    ("L7", "X = b'a'\n"),
    ("L7", "def f(a):\n    return bytes(a)\n"),
    ("L13", "def f(a):\n    return a in {1, 2, 3}\n"),
    ("L13", "def f(a):\n    return [lambda k: k, lambda k: k + 1]\n"),
    ("L22", "def f(a):\n    return [len, a]\n"),
    ("L22", "def f(a):\n    return sorted(a, key=repr)\n"),
    ("L22", "def f(a):\n    b = int\n    return b(a)\n"),
    ("L22", "def f(a):\n    return int(a, base=2)\n"),
    ("L22", "def f(a):\n    return a.split(sep='b')\n"),
    ("L22", "def f(a):\n    return isinstance(a, set)\n"),
    ("L22", "def f(a, b):\n    return isinstance(a, (int, b))\n"),
    ("L28", "class A:\n    def __init__(self):\n        return None\n"),
    ("L28", "class A:\n    def __len__(self):\n        return 1\n"),
    ("L28", "class A:\n    pass\n\n\nclass B(A):\n    def f(self):\n        A.__init__(self)\n"),
    ("L28", "class A:\n    pass\n\n\nclass B(A):\n    def __init__(self, a):\n        A.__init__(a)\n"),
    ("L27", "X = '5 %'\n"),
    ("L27", "X = '\\u0041'\n"),
    ("L27", "def f(a):\n    return 2 ** a\n"),
    ("L14", "X = '\u00e4'\n"),
    ("L14", "X = 1\r\n"),
    ("L10", "def f(a):\n\treturn a\n"),
    ("L10", "X = '" + "a" * 120 + "'\n"),
    ("L10", "def f(a):\n" + "    a += 1\n" * 39 + "    return a\n"),
    ("L10", "# why\n" * 401),
)


class TestPackage(unittest.TestCase):
    def test_the_package_keeps_to_the_language(self):
        folder = ROOT / PACKAGE
        files = {path.name: path.read_bytes().decode("utf-8") for path in folder.glob("*.py")}
        self.assertIn("orders.py", files)
        self.assertEqual(faults(files), [])

    def test_only_python_files_lie_in_it(self):
        there = [path.name for path in (ROOT / PACKAGE).iterdir() if path.name != "__pycache__"]
        self.assertEqual([name for name in there if not name.endswith(".py")], [])
        self.assertIn("__init__.py", there)

    def test_it_is_small_enough(self):
        self.assertLessEqual(len(list((ROOT / PACKAGE).glob("*.py"))), 100)


class TestTheCheck(unittest.TestCase):
    def test_good_files_have_no_fault(self):
        self.assertEqual(faults({"good.py": GOOD, "other.py": OTHER, "__init__.py": '"""All."""\n'}), [])

    def test_each_broken_rule_is_found(self):
        for rule, text in BROKEN:
            with self.subTest(rule=rule, text=text):
                found = [row.split()[-1] for row in faults({"bad.py": text, "other.py": OTHER})]
                self.assertIn(rule, found)

    def test_bounds_are_kept_to_the_last(self):
        for text in ("X = '" + "a" * 114 + "'\n",
                     "def f(a):\n" + "    a += 1\n" * 38 + "    return a\n",
                     "# why\n" * 400):
            self.assertEqual(faults({"good.py": text}), [])

    def test_file_names(self):
        for name in ("Big.py", "test_a.py", "tests.py", "sum.py", "_a.py", "law_a.py", "a-b.py", "a.txt"):
            with self.subTest(name=name):
                self.assertIn(f"{name}:0 L1", faults({name: ""}))

    def test_files_that_draw_from_one_another(self):
        one = "from manypurses.b import B\n\nA = 1\n"
        other = "from manypurses.a import A\n\nB = 1\n"
        self.assertEqual(faults({"a.py": one, "b.py": other}), ["a.py:0 L16", "b.py:0 L16"])

    def test_a_method_in_one_file_and_a_value_in_another(self):
        one = "class A:\n    def much(self):\n        return 1\n"
        other = "class B:\n    def __init__(self):\n        self.much = 1\n"
        self.assertEqual(faults({"a.py": one, "b.py": other}), ["b.py:3 L18"])


if __name__ == "__main__":
    unittest.main()
