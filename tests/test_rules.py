"""The files of the package keep the language's rules, and the checker finds breaches of them."""

import os
import unittest

from tests.rules import Checker, breaches

ROOT = os.path.dirname(os.path.dirname(os.path.abspath(__file__)))
BAD = [
    ("L16", "import returnsdue.b as c\n"),
    ("L2", "from returnsdue.b import *\n"),
    ("L2", "from .b import two\n"),
    ("L2", "from os import path\n"),
    ("L2", "ONE = 1\nfrom returnsdue.b import two\n\ndef f():\n    return two()\n"),
    ("L16", "from returnsdue.b import missing\n\ndef f():\n    return missing()\n"),
    ("L16", "from returnsdue.b import two\n"),
    ("L16", "import returnsdue\n"),
    ("L3", "ONE, TWO = 1, 2\n"),
    ("L3", "print(1)\n"),
    ("L3", "ONE = len('a')\n"),
    ("L3", "T = {'a': 1}\n\ndef f(x):\n    return T[x](x)\n"),
    ("L4", "def f(*rest):\n    return rest\n"),
    ("L4", "def f(x=[]):\n    return x\n"),
    ("L4", "class A:\n    @property\n    def x(self):\n        return 1\n"),
    ("L5", "class A:\n    n = 1\n"),
    ("L5", "class A(dict):\n    pass\n"),
    ("L6", "def f():\n    global x\n    x = 1\n"),
    ("L6", "def f(x):\n    with x:\n        pass\n"),
    ("L6", "def f(x):\n    x\n"),
    ("L6", "def f(x):\n    try:\n        return x[0]\n    finally:\n        pass\n"),
    ("L7", "def f(x):\n    return x / 2\n"),
    ("L7", "def f():\n    return 0.5\n"),
    ("L7", "def f(x):\n    return [y for y in x] + list(y for y in x)\n"),
    ("L7", "def f(x):\n    return f'{x:>3}'\n"),
    ("L7", "def f(x, g):\n    return g(*x)\n"),
    ("L7", "def f(x):\n    x /= 2\n"),
    ("L8", "def f(x):\n    return hash(x)\n"),
    ("L8", "def f(x):\n    return unknown\n"),
    ("L8", "def f(x):\n    print(x)\n"),
    ("L8", "def f(x):\n    return x.__dict__\n"),
    ("L10", "def f(x):\n" + "    x += 1\n" * 40),
    ("L10", "ONE = 1\n" + "\n" * 399),
    ("L10", "ONE = '" + "a" * 120 + "'\n"),
    ("L12", "def f(__x):\n    return 1\n".replace("__x", "x\u00e4")),
    ("L12", "def f(x):\n    _, y = x\n    return _\n"),
    ("L12", "def f(_wallx):\n    return 1\n"),
    ("L14", "ONE = 1  # \u00e4\n"),
    ("L14", "def f():\n\treturn 1\n"),
    ("L15", "ONE = 1\nONE = 2\n"),
    ("L15", "ONE = [[1], 2]\n"),
    ("L15", "def f(list):\n    return 1\n"),
    ("L15", "T = {'a': 1}\n\ndef f():\n    return T\n"),
    ("L15", "T = [1]\n\ndef f():\n    T.append(2)\n"),
    ("L15", "from returnsdue.b import two\n\ndef f(two):\n    return two\n\ndef g():\n    return two()\n"),
    ("L17", "def f(open):\n    return open\n"),
    ("L17", "def f(x):\n    return x.mro\n"),
    ("L17", "def f(id):\n    return 1\n"),
    ("L17", "ONE = 'enum'\n"),
    ("L18", "class A:\n    pass\n\ndef f():\n    return [A]\n"),
    ("L18", "class A:\n    def x(self):\n        return 1\n\n    def x(self):\n        return 2\n"),
    ("L18", "class A:\n    def __init__(self):\n        self.x = 1\n\n    def x(self):\n        return 2\n\ndef f(a):\n"
            "    return a.x()\n"),
    ("L18", "def f(a):\n    return a.never\n"),
    ("L19", "def f(x):\n    raise x\n"),
    ("L19", "def f(x):\n    try:\n        return x()\n    except Exception:\n        return 1\n"),
    ("L20", "def f(x, y):\n    return x is y\n"),
    ("L21", "def f(x: int):\n    return x\n"),
    ("L22", "def f(x):\n    return isinstance(x, float)\n"),
    ("L22", "def f(x):\n    return g(x, 1)\n\ndef g(x):\n    return x\n"),
    ("L22", "def f(x):\n    return g()\n\ndef g(x):\n    return x\n"),
    ("L22", "def f():\n    return len\n"),
    ("L23", "def f(x):\n    y = zip(x, x)\n    return list(y)\n"),
    ("L23", "def f(x):\n    for y in x:\n        x.append(y)\n"),
    ("L23", "def f(x):\n    for k, y in enumerate(x):\n        x[k] = y\n"),
    ("L24", "def f(x):\n    y = set(x)\n    return y\n"),
    ("L24", "def f(x):\n    y = {1, 2}\n    return y\n"),
    ("L25", "def f(x):\n    return x.format(1)\n"),
    ("L26", "class A:\n    def __init__(self):\n        self.items = 1\n"),
    ("L26", "class A:\n    def sort(self):\n        return 1\n"),
    ("L26", "class A:\n    def __init__(self):\n        self.real = 1\n"),
    ("L27", "def f(x, y):\n    return x ** y\n"),
    ("L27", "ONE = 'a%'\n"),
    ("L27", "ONE = 'a\\x00'\n"),
    ("L27", "def f(x):\n    return 1if x else 2\n"),
    ("L27", "ONE = '__odd__'\n"),
    ("L28", "class A:\n    def __init__(self):\n        return None\n"),
]
GOOD = """\"\"\"A module.\"\"\"

from returnsdue.b import two

ONE = 1
TABLE = {"a": ONE}


class Bad(ValueError):
    \"\"\"An error.\"\"\"

    def __init__(self, at):
        ValueError.__init__(self, f"bad {at}")
        self.at = at


def f(x, y=3):
    \"\"\"A function.\"\"\"
    found = [two(z) for z in x if z is not None]
    for at, _ in enumerate(found):
        y += TABLE.get(at, 0)
    if y > 2 ** 10:
        raise Bad(y)
    return sorted(set(found)), (ONE, *found)
"""
OTHER = "def two(x=0):\n    return x\n"


def found_in(text):
    return Checker("returnsdue", {"__init__": "\"\"\"A package.\"\"\"\n", "a": text, "b": OTHER}).found


class RulesTest(unittest.TestCase):
    def test_the_package_keeps_the_rules(self):
        self.assertEqual(breaches(os.path.join(ROOT, "returnsdue")), [])

    def test_right_code_is_let_by(self):
        self.assertEqual(found_in(GOOD), [])

    def test_breaches_are_found(self):
        for rule, text in BAD:
            with self.subTest(rule=rule, text=text):
                self.assertIn(rule, [found for found, _, _ in found_in(text)])

    def test_cycles_are_found(self):
        texts = {
            "__init__": "\"\"\"A package.\"\"\"\n",
            "a": "from returnsdue.b import g\n\ndef f():\n    return g()\n",
            "b": "from returnsdue.a import f\n\ndef g():\n    return f()\n",
        }
        self.assertIn("L16", [rule for rule, _, _ in Checker("returnsdue", texts).found])

    def test_names_of_files(self):
        for name in ("test_a", "len", "Upper", "law_a", "enum", "site"):
            with self.subTest(name=name):
                texts = {"__init__": "\"\"\"A package.\"\"\"\n", name: OTHER}
                self.assertTrue(Checker("returnsdue", texts).found)


if __name__ == "__main__":
    unittest.main()
