"""The package keeps to ../shared/LANGUAGE.md, and the look that says so sees what it must."""

import pathlib
import unittest

from tests.language import PACKAGE, faults

HOME = pathlib.Path(__file__).resolve().parent.parent / PACKAGE

# Each a file that breaks a rule, and the rule.
BROKEN = (
    ("L2", "import math\n"), ("L2", "from math import gcd\n"), ("L2", "from threelays.good import *\n"),
    ("L2", "from .good import told\n"), ("L2", "x = 1\nfrom threelays.good import told\n"),
    ("L2", "from threelays.none import told\n"), ("L3", "print(1)\n"), ("L3", "x = len([1])\n"), ("L3", "x = y = 1\n"),
    ("L4", "def f(a, /):\n    return a\n"), ("L4", "def f(*a):\n    return a\n"),
    ("L4", "def f():\n    def g():\n        return 1\n    return g()\n"),
    ("L5", "class A:\n    def __hash__(self):\n        return 1\n"), ("L5", "class A(dict):\n    pass\n"),
    ("L5", "class A:\n    x = 1\n"), ("L6", "def f():\n    global x\n"), ("L6", "def f():\n    return {1, 2, 3}\n"),
    ("L6", "def f(a):\n    return a / 2\n"), ("L6", "def f(a):\n    return 2 ** a\n"),
    ("L6", "def f():\n    yield 1\n"),
    ("L19", "def f(a):\n    try:\n        len(a)\n    except Exception:\n        pass\n"),
    ("L19", "def f(a):\n    try:\n        len(a)\n    except:\n        pass\n"),
    ("L19", "class A(ValueError):\n    pass\ndef f(a):\n    try:\n        len(a)\n    except (A, KeyError):\n"
     "        pass\n"),
    ("L6", "class A(ValueError):\n    pass\ndef f(a):\n    try:\n        len(a)\n    except A:\n        pass\n"
     "    finally:\n        a.append(1)\n"),
    ("L3", "T = {1: len}\n"), ("L3", "T = {1: f}\ndef f():\n    return 1\n"), ("L3", "T = {1: [2]}\n"),
    ("L3", "T = {1: 2, **{}}\n"), ("L3", "T = {1: {}}\n"), ("L15", "T = {1: 2}\ndef f():\n    return T\n"),
    ("L15", "T = {1: 2}\ndef f():\n    T[3] = 4\n"),
    ("L15", "T = {1: 2}\ndef f():\n    for x in T:\n        len(x)\n"),
    ("L22", "def g(a):\n    return a\nT = {1: g}\ndef f():\n    h = T[1]\n    return h(1, 2)\n"),
    ("L8", "def g(a):\n    return a\nT = {1: g}\ndef f():\n    h = g\n    return h(1)\n"),
    ("L7", "def g(a):\n    return a\nT = {1: g}\ndef f():\n    return T[1](1)\n"),
    ("L22", "class A:\n    def g(self):\n        return 1\ndef f(a):\n    return a.g(2)\n"),
    ("L22", "class A:\n    def __init__(self, x):\n        self.x = x\ndef f(a):\n    return A()\n"),
    ("L22", "class A:\n    def g(self):\n        return 1\ndef f(a):\n    return A(1)\n"),
    ("L18", "def f(a):\n    return a.many\n"), ("L26", "class A:\n    def index(self):\n        return 1\n"),
    ("L7", "def f():\n    return 1.5\n"), ("L7", "def f():\n    return (lambda: 1)()\n"),
    ("L8", "def f(a):\n    return hash(a)\n"), ("L8", "def f(a):\n    print(a)\n"),
    ("L10", "x = 1  #" + "x" * 120 + "\n"), ("L10", "\n" * 401), ("L10", "if 1:\n\tx = 1\n"),
    ("L10", "def f():\n" + "    pass\n" * 40), ("L12", "def f():\n    _a = 1\n    return _a\n"),
    ("L14", "x = '\u00e4'\n"), ("L15", "x = 1\nx = 2\n"), ("L15", "def f(list):\n    return list\n"),
    ("L15", "from threelays.good import told\ndef f(told):\n    return told\n"),
    ("L16", "from threelays.good import missing\n"), ("L16", "from threelays.good import told as other\n"),
    ("L16", "from threelays.bad import f\ndef f():\n    return 1\n"), ("L17", "# what type it is\n"),
    ("L18", "class A:\n    pass\ndef f():\n    return A\n"), ("L18", "def f(a):\n    a.x = 1\n"),
    ("L18", "class A:\n    def x(self):\n        return 1\nclass B:\n    def f(self):\n        self.x = 1\n"),
    ("L19", "def f(a):\n    raise a\n"), ("L20", "def f(a, b):\n    return a is b\n"),
    ("L21", "def f(a: int):\n    pass\n"),
    ("L22", "from threelays.good import told\ndef f():\n    return told(1, 2)\n"),
    ("L22", "def f(a):\n    return sorted(a, key=f)\n"), ("L23", "def f(a):\n    return len(zip(a, a))\n"),
    ("L23", "def f(a):\n    for x in a:\n        a.append(x)\n"), ("L25", "def f(a):\n    return a.hex()\n"),
    ("L23", "def f(a):\n    for x in a:\n        a[x] = 1\n"), ("L24", "def f(a):\n    return {x for x in a}\n"),
    ("L24", "def f(a):\n    return list({x for x in a})\n"), ("L3", "x = [len]\n"),
    ("L23", "def f(a):\n    return a.items()\n"), ("L23", "def f(a):\n    b = a.values()\n    return b\n"),
    ("L23", "def f(a):\n    return len(a.keys())\n"), ("L23", "def f(a):\n    return zip(a, a)\n"),
    ("L23", "def f(a):\n    b = (x for x in a)\n    return b\n"),
    ("L23", "def f(a):\n    return max(0, (x for x in a))\n"),
    ("L24", "def f(a):\n    for x in {y for y in a}:\n        x()\n"), ("L24", "def f(a):\n    return {a: 1, **a}\n"),
    ("L26", "class A:\n    def __init__(self):\n        self.items = 1\n"), ("L27", "x = '%'\n"),
    ("L27", "x = '\\x41'\n"),
    ("L27", "x = 1" + "0" * 900 + "\n"), ("L28", "class A:\n    def __init__(self):\n        return None\n"))

GOOD = "def told(a):\n    return a\n"
TABLED = ("class Bad(ValueError):\n    'Bad.'\ndef one(a):\n    raise Bad()\nTABLE = {'a': one, 'b': one}\n"
          "WORDS = {'a': (('b', 1), ()), 'c': -1}\n"
          "def f(a):\n    g = TABLE[a]\n    try:\n        return g(WORDS[a]) if a in WORDS else 1\n"
          "    except Bad:\n        return 2\n"
          "class Box:\n    def __init__(self, a):\n        self.a = [a]\n    def told(self, b):\n"
          "        self.a.append(b)\n        return self.a\ndef h(a):\n    return Box(a).told(2)\n")
VIEWED = "def f(a):\n    return (sum(a.values()), tuple(a.items()), dict(zip(a, a)), list(a.keys()))\n"


def package_files():
    return {path.name: path.read_text(encoding="utf-8") for path in HOME.iterdir() if path.name != "__pycache__"}


class LanguageTests(unittest.TestCase):

    def test_the_package_keeps_to_the_rules(self):
        self.assertEqual(faults(package_files()), [])

    def test_its_files(self):
        files = package_files()
        for name in ("__init__", "errors", "fractions", "points", "fields", "ties", "triangles", "laychecker", "lays",
                     "tielays", "menus", "fronts", "counting", "countchecker", "countpapers", "numbering", "leasts",
                     "boundchecker", "boundpapers", "longest", "turns", "circles", "plainchecker", "falls", "plain",
                     "nears", "distances", "farchecker", "farpapers", "rings", "ringchecker", "ringpapers",
                     "ringleasts", "webs", "webchecker", "webpapers", "keeping", "texts", "readings", "desk"):
            self.assertIn(name + ".py", files)
        self.assertTrue(all(path.is_file() for path in HOME.iterdir() if path.name != "__pycache__"))
        self.assertLessEqual(len(files), 100)

    def test_the_look_sees_each_break(self):
        for rule, text in BROKEN:
            with self.subTest(text):
                found = faults({"__init__.py": "", "good.py": GOOD, "bad.py": text})
                self.assertIn(rule, [fault.split()[0] for fault in found if "bad.py" in fault or PACKAGE in fault])

    def test_the_look_sees_bad_names_of_files_and_rounds(self):
        self.assertIn("L1", faults({"Bad.py": GOOD})[0])
        self.assertIn("L14", faults({"test_bad.py": GOOD})[0])
        self.assertIn("L14", faults({"range.py": GOOD})[0])
        rounds = {"one.py": "from threelays.other import g\ndef f():\n    return g()\n",
                  "other.py": "from threelays.one import f\ndef g():\n    return f()\n"}
        self.assertEqual([fault.split()[0] for fault in faults(rounds)], ["L16", "L16"])

    def test_the_look_lets_good_files_by(self):
        files = {"__init__.py": '"""Told."""\n', "good.py": GOOD, "viewed.py": VIEWED, "tabled.py": TABLED}
        self.assertEqual(faults(files), [])
