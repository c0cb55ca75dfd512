"""The package keeps to its part of Python, and what lies outside that part would be found."""

import pathlib
import unittest

from tests.language import PACKAGE, faults_of

ROOT = pathlib.Path(__file__).resolve().parent.parent

# For each rule pieces of code that lie outside it; each stands in a file of its own.
OUTSIDE = {
    "L2": ["import os\n", "from os import path\n", "from . import a\n", "from failrules.a import *\n",
           "def f():\n    from failrules.a import g\n    return g\n"],
    "L3": ["X = [n for n in (1, 2)]\n", "print(1)\n", "for n in (1, 2):\n    pass\n", "X = len([1])\n"],
    "L4": ["def f(*xs):\n    return xs\n", "def f(**xs):\n    return xs\n", "def f(*, x):\n    return x\n",
           "def f(x=len([])):\n    return x\n", "def g(x):\n    return x\n\n\n@g\ndef f():\n    return 1\n"],
    "L5": ["class A:\n    x = 1\n", "class A:\n    def __add__(self, x):\n        return x\n",
           "class A(ValueError, KeyError):\n    pass\n"],
    "L6": ["def f(x):\n    del x\n", "def f(x):\n    assert x\n", "def f(x):\n    with x:\n        pass\n",
           "def f(x):\n    while x:\n        pass\n    else:\n        pass\n", "def f():\n    a = b = 1\n    return a + b\n",
           "def f(x):\n    x\n", "def f():\n    'what it does'\n    return 1\n",
           "def f(x):\n    try:\n        x()\n    finally:\n        x()\n", "def f():\n    global X\n    return 1\n"],
    "L7": ["X = 1.5\n", "def f(x):\n    return x / 2\n", "def f(x):\n    return {y: 1 for y in x}\n",
           "def f(x):\n    return list(y for y in x)\n", "def f(x):\n    return [y for z in x for y in z]\n",
           "def f(x):\n    return [*x]\n", "X = b'1'\n", "def f(x):\n    if (y := x):\n        return y\n    return 0\n",
           "def f(x):\n    return f'{x + 1}'\n", "def f(x):\n    return f'{x:3}'\n"],
    "L8": ["def f(x):\n    return map(f, x)\n", "def f(x):\n    return pow(x, 2)\n", "def len(x):\n    return x\n",
           "def f(x):\n    return x.format(1)\n"],
    "L9": ["def f(x):\n    print(x)\n"],
    "L10": ["def f(x):\n" + "    x = x + 1\n" * 39 + "    return x\n", "X = 1\n" + "\n" * 400, "X = '" + "x" * 120 + "'\n"],
    "L11": ["def f(x):\n    for y in set(x):\n        x.append(y)\n"],
    "L12": ["def f(x):\n    return [1 for _ in x]\n", "def _f(x):\n    return x\n", "def f(x):\n    return x._y\n"],
    "L13": ["def f():\n    x = {1, 2, 3}\n    return 1 in x\n", "def f():\n    return [lambda x: x, lambda x: 2 * x]\n"],
    "L14": ["X = '\u00e4'\n", "# \u2026\n"],
    "L15": ["X = 1\nX = 2\n", "X = [[1], [2]]\n", "X = [1]\n\n\ndef f():\n    X.append(1)\n",
            "X = {}\n\n\ndef f(y):\n    X[y] = 1\n", "X = [1]\n\n\ndef f():\n    return X\n",
            "def f(id):\n    return id\n", "def f():\n    class A:\n        pass\n    return A()\n",
            "class A:\n    pass\n\n\ndef f(A):\n    return A\n"],
    "L16": ["from failrules.missing import f\n", "from failrules.piece import f\n\n\ndef g():\n    return f()\n"],
    "L17": ["# the type of it\nX = 1\n", "X = 'my_dataclasses'\n", "def f(x):\n    return x.elements\n",
            "def f(x):\n    return super(x)\n", "def register(x):\n    return x\n"],
    "L18": ["class A:\n    pass\n\n\ndef f():\n    return [A]\n", "class A(AttributeError):\n    pass\n",
            "class A:\n    def f(self):\n        return 1\n\n    def f(self):\n        return 2\n",
            "class A:\n    def __init__(self):\n        self.f = 1\n\n    def f(self):\n        return 2\n"],
    "L19": ["def f(x):\n    try:\n        return x()\n    except Exception:\n        return 0\n",
            "def f(x):\n    try:\n        return x()\n    except TypeError:\n        return 0\n",
            "def f(x):\n    raise x\n"],
    "L20": ["def f(x, y):\n    return x is y\n", "def f(x):\n    return x is not 5\n"],
    "L21": ["def f(x: int):\n    return x\n", "def f(x) -> int:\n    return x\n", "def f():\n    x: int = 1\n    return x\n"],
    "L22": ["def f(x):\n    y = len\n    return y(x)\n", "def f(x):\n    return int(x, base=2)\n",
            "def f(x):\n    return x.split(sep='a')\n"],
    "L23": ["def f(x):\n    y = range(x)\n    return y\n", "def f(x):\n    return x in range(3)\n",
            "def f(x):\n    return x.items()\n", "def f(x):\n    for y in x:\n        x.append(y)\n",
            "def f(x):\n    for k, y in enumerate(x):\n        x[k] = y\n"],
    "L24": ["def f(x):\n    y = set(x)\n    return len(y)\n", "def f(x):\n    return list(set(x))\n"],
    "L25": ["def f(x):\n    x.sort()\n", "def f(x):\n    return x.title()\n", "def f(x):\n    y = x.append\n    y(1)\n"],
    "L26": ["class A:\n    def __init__(self):\n        self.items = 1\n", "class A:\n    def sort(self):\n        return 1\n"],
    "L27": ["def f(x):\n    return 2 ** x\n", "X = '5 %'\n", "def f(x):\n    return chr(x)\n", "X = '\\x41'\n",
            f"X = {'1' * 901}\n"],
    "L28": ["class A:\n    def __init__(self):\n        return None\n", "class A:\n    def __len__(self):\n        return 1\n"],
}

# Code that lies within all rules.
WITHIN = '''"""What it does."""

from failrules.other import double

NAMES = {"a": 1, "b": (1, 2)}


def shown(xs):
    return [f"{x!r}" for x in xs if x is not None]


TABLE = ((shown, 1, False), (None, -2, True))


class Refused(ValueError):
    pass


class Counter:
    def __init__(self, start=0):
        self.count = start

    def go_on(self, step):
        self.count += step
        if self.count > 2 ** 8:
            raise Refused("too far")


def counted(xs):
    counter = Counter()
    for k, x in enumerate(sorted(set(xs))):
        try:
            counter.go_on(x - k)
        except Refused:
            return None
    return max([double(x) for x in xs], default=0) // 2, len(set(xs)) == len(xs), NAMES["a"]
'''


def package_files():
    """All that lies in the package's folder, but for what Python itself leaves there when it runs."""
    files = {}
    for path in sorted((ROOT / PACKAGE).rglob("*")):
        if path.is_file() and "__pycache__" not in path.parts:
            files[path.relative_to(ROOT).as_posix()] = path.read_text(encoding="utf-8")
    return files


def rules_broken(source):
    return {rule for rule, path, line in faults_of({f"{PACKAGE}/__init__.py": "", f"{PACKAGE}/piece.py": source})}


class Language(unittest.TestCase):
    def test_the_package_keeps_to_it(self):
        self.assertEqual(faults_of(package_files()), [])
        self.assertIn(f"{PACKAGE}/plant.py", package_files())

    def test_what_lies_outside_a_rule_is_found(self):
        for rule, pieces in OUTSIDE.items():
            for source in pieces:
                self.assertIn(rule, rules_broken(source), source)

    def test_what_lies_within_the_rules_is_let_through(self):
        files = {
            f"{PACKAGE}/__init__.py": "", f"{PACKAGE}/piece.py": WITHIN,
            f"{PACKAGE}/other.py": "def double(x):\n    return 2 * x\n",
        }
        self.assertEqual(faults_of(files), [])

    def test_files(self):
        top = {f"{PACKAGE}/__init__.py": ""}
        for path, rule in ((f"{PACKAGE}/notes.txt", "L1"), (f"{PACKAGE}/a-b.py", "L1"), (f"{PACKAGE}/Plant.py", "L14"),
                           (f"{PACKAGE}/test_plant.py", "L14"), (f"{PACKAGE}/sum.py", "L14"),
                           (f"{PACKAGE}/inner/plant.py", "L14"), (f"{PACKAGE}/enum.py", "L14")):
            self.assertIn(rule, {fault[0] for fault in faults_of({**top, path: ""})}, path)

    def test_files_that_draw_from_one_another(self):
        files = {
            f"{PACKAGE}/__init__.py": "",
            f"{PACKAGE}/a.py": "from failrules.b import g\n\n\ndef f():\n    return g()\n",
            f"{PACKAGE}/b.py": "from failrules.c import f\n\n\ndef g():\n    return f()\n",
            f"{PACKAGE}/c.py": "from failrules.a import f\n\n\ndef h():\n    return f()\n",
        }
        self.assertIn("L16", {fault[0] for fault in faults_of(files)})
        # b takes from c a name that c itself has from a.
        self.assertIn(("L16", f"{PACKAGE}/b.py", 1), faults_of(files))

    def test_each_rule_has_pieces_or_files(self):
        self.assertEqual(set(OUTSIDE) | {"L1"}, {f"L{n}" for n in range(1, 29)})
