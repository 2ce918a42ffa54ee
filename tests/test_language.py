"""The package's files keep to LANGUAGE.md, and the reader that says so sees each rule broken."""

import pathlib
import unittest

from tests.language import faults

PACKAGE = pathlib.Path(__file__).resolve().parent.parent / "sixteenbit"

# A rule, and a file that breaks it.
BROKEN = [
    ("L2", "import os\n"),
    ("L2", "from os import path\n"),
    ("L2", "from .other import helper\n"),
    ("L2", "from sixteenbit.other import *\n"),
    ("L2", "X = 1\nfrom sixteenbit.other import helper\n"),
    ("L2", "def f():\n    from sixteenbit.other import helper\n    return helper\n"),
    ("L3", "X = 1 + 1\n"),
    ("L3", "for k in [1]:\n    pass\n"),
    ("L3", "X = [k for k in (1, 2)]\n"),
    ("L4", "def f(*xs):\n    return xs\n"),
    ("L4", "def f(**xs):\n    return xs\n"),
    ("L4", "def f(*, x):\n    return x\n"),
    ("L4", "def g(x):\n    return x\n\n\n@g\ndef f():\n    return 1\n"),
    ("L4", "def f(x=len([])):\n    return x\n"),
    ("L4", "def f():\n    x = 1\n\n    def g():\n        x = 2\n        return x\n    return g() + x\n"),
    ("L5", "class A:\n    x = 1\n"),
    ("L5", "class A(dict):\n    pass\n"),
    ("L6", "def f(x):\n    assert x\n"),
    ("L6", "def f(x):\n    del x[0]\n"),
    ("L6", "def f(x):\n    a = b = x\n    return a + b\n"),
    ("L6", "def f(x):\n    a, b = x\n    return a + b\n"),
    ("L6", "def f(x):\n    with x:\n        pass\n"),
    ("L6", "def f(x):\n    for k in x:\n        pass\n    else:\n        pass\n"),
    ("L6", "def f(x):\n    try:\n        x()\n    finally:\n        pass\n"),
    ("L6", "def f(x):\n    try:\n        x()\n    except:\n        pass\n"),
    ("L6", "def f(x):\n    x + 1\n"),
    ("L6", "def f(x):\n    match x:\n        case 1:\n            pass\n"),
    ("L7", "def f(x):\n    return x / 2\n"),
    ("L7", "def f(x):\n    return x * 1.5\n"),
    ("L7", "def f(x):\n    return b'a' + x\n"),
    ("L7", "def f(x):\n    return {k: 1 for k in x}\n"),
    ("L7", "def f(x):\n    return sum(k for k in x)\n"),
    ("L7", "def f(x):\n    return [a for b in x for a in b]\n"),
    ("L7", "def f(x):\n    return (y := x)\n"),
    ("L7", "def f(x):\n    return [*x]\n"),
    ("L7", "def f(x):\n    return f'{x + 1}'\n"),
    ("L7", "def f(x):\n    return f'{x:5}'\n"),
    ("L8", "def f(x):\n    return hash(x)\n"),
    ("L8", "def f(x):\n    print(x)\n"),
    ("L8", "class A:\n    def __add__(self, x):\n        return x\n"),
    ("L10", "def f(x):\n" + "    x += 1\n" * 40),
    ("L10", "X = 1\n" + "# more\n" * 400),
    ("L10", "# " + "x" * 120 + "\n"),
    ("L12", "def f(x):\n    _y = x\n    return _y\n"),
    ("L12", "def f(x):\n    return [1 for _ in x]\n"),
    ("L13", "def f(x):\n    return len({1, 2, 3})\n"),
    ("L13", "def f(x):\n    return [lambda a: a, lambda a: x]\n"),
    ("L14", "# \u00e9\n"),
    ("L15", "X = 1\nX = 2\n"),
    ("L15", "X = [[1], [2]]\n"),
    ("L15", "X = [1]\n\n\ndef f():\n    X.append(2)\n"),
    ("L15", "X = [1]\n\n\ndef f():\n    X[0] = 2\n"),
    ("L15", "X = [1]\n\n\ndef f():\n    return X\n"),
    ("L15", "def f(x):\n    next = x\n    return next\n"),
    ("L15", "def f(bytes):\n    return bytes\n"),
    ("L15", "class A:\n    pass\n\n\ndef f(A):\n    return A\n"),
    ("L15", "def f():\n    class A:\n        pass\n    return A()\n"),
    ("L16", "from sixteenbit.other import missing\n"),
    ("L17", "def f(register):\n    return register\n"),
    ("L17", "def f(x):\n    return x.f_back\n"),
    ("L17", "def f(x):\n    return getattr(x, 'y')\n"),
    ("L17", "# a type of thing\n"),
    ("L17", "X = 'overloaded'\n"),
    ("L18", "class A:\n    pass\n\n\ndef f():\n    return [A]\n"),
    ("L18", "class A:\n    pass\n\n\ndef f():\n    A.x = 1\n"),
    ("L18", "class A:\n    def f(self):\n        return 1\n\n    def f(self):\n        return 2\n"),
    ("L18", "class A:\n    def x(self):\n        return 1\n\n\nclass B:\n    def __init__(self):\n        self.x = 1\n"),
    ("L18", "class A(StopIteration):\n    pass\n"),
    ("L19", "def f(x):\n    try:\n        x()\n    except Exception:\n        pass\n"),
    ("L19", "def f(x):\n    try:\n        x()\n    except ValueError:\n        pass\n"),
    ("L19", "def f(x):\n    try:\n        return x[0] * 2\n    except IndexError:\n        return 0\n"),
    ("L19", "def f(x):\n    raise ValueError\n"),
    ("L19", "def f(x):\n    raise x\n"),
    ("L20", "def f(x):\n    return x is 1\n"),
    ("L20", "def f(x, y):\n    return x is not y\n"),
    ("L21", "def f(x: int):\n    return x\n"),
    ("L21", "def f(x):\n    y: int = x\n    return y\n"),
    ("L22", "def f(x):\n    g = len\n    return g(x)\n"),
    ("L22", "def f(x):\n    return sorted(x, reverse=x)\n"),
    ("L22", "def f(x):\n    return int(x, base=2)\n"),
    ("L22", "def f(x):\n    return isinstance(x, set)\n"),
    ("L23", "def f(x):\n    y = range(x)\n    return list(y)\n"),
    ("L23", "def f(x):\n    return x in range(3)\n"),
    ("L23", "def f(x):\n    for k in x:\n        x.append(k)\n"),
    ("L23", "def f(x):\n    for k, y in enumerate(x):\n        x[k] = y\n"),
    ("L24", "def f(x):\n    y = set(x)\n    return 1 in y\n"),
    ("L24", "def f(x):\n    for k in {1, 2}:\n        x += k\n    return x\n"),
    ("L25", "def f(x):\n    x.sort()\n"),
    ("L25", "def f(x):\n    g = x.append\n    g(1)\n"),
    ("L26", "class A:\n    def sort(self):\n        return 1\n"),
    ("L26", "class A:\n    def __init__(self):\n        self.items = 1\n"),
    ("L26", "class A:\n    def __init__(self):\n        self.real = 1\n"),
    ("L27", "def f(x):\n    return 2 ** x\n"),
    ("L27", "def f(x):\n    return 2 ** 65\n"),
    ("L27", "X = '5 %'\n"),
    ("L27", "X = '\\x41'\n"),
    ("L27", "X = " + "1" * 901 + "\n"),
    ("L28", "class A:\n    def __init__(self):\n        return None\n"),
    ("L28", "class A:\n    def __len__(self):\n        return 1 + 1\n"),
    ("L28", "class A:\n    def __str__(self):\n        x = 1\n        return str(x)\n"),
]

# A rule, and files that break it only together or by where they lie.
BROKEN_FILES = [
    ("L1", {"__init__.py": "", "Core.py": ""}),
    ("L14", {"core.py": ""}),
    ("L14", {"__init__.py": "", "tests.py": ""}),
    ("L14", {"__init__.py": "", "range.py": ""}),
    ("L14", {"__init__.py": "", "inner/__init__.py": "", "inner/__main__.py": ""}),
    ("L15", {"__init__.py": "", "a.py": "X = [1]\n",
             "b.py": "from sixteenbit.a import X\n\n\ndef f():\n    return X.pop()\n"}),
    ("L16", {"__init__.py": "", "a.py": "from sixteenbit.b import g\n\n\ndef f():\n    return g()\n",
             "b.py": "from sixteenbit.a import f\n\n\ndef g():\n    return f()\n"}),
    ("L16", {"__init__.py": "from sixteenbit.a import f\n", "a.py": "def f():\n    return 1\n",
             "b.py": "from sixteenbit.a import f\n"}),
    ("L16", {"__init__.py": "a = 1\n", "a.py": ""}),
]

KEPT = '''"""A file that keeps to the rules."""

from sixteenbit.other import helper

STEPS = (1, 2)
NAMES = {1: "one", 2: "two"}


class Refused(ValueError):
    pass


class Pile:

    def __init__(self, start):
        self.rows = [start]

    def push(self, row):
        self.rows.append(row)

    def __len__(self):
        return len(self.rows)


def work(pile, xs, step=-1):
    for k, x in enumerate(xs):
        pile.push(x + helper(k) % 3 - 2 ** 16)
    try:
        name = NAMES[step]
    except KeyError as e:
        raise Refused(f"no step {step!r}") from e
    if name is None or step in {1, 2, 3}:
        return sorted(xs, key=lambda x: -x, reverse=True)
    return [x // 2 for x in pile.rows if x not in STEPS]
'''

OTHER = "def helper(x):\n    return x\n"


def package_texts():
    return {path.relative_to(PACKAGE).as_posix(): path.read_bytes().decode("utf-8")
            for path in PACKAGE.rglob("*.py")}


class PackageTest(unittest.TestCase):
    def test_package_keeps_to_the_language(self):
        texts = package_texts()
        self.assertIn("core.py", texts)
        self.assertEqual(faults(texts), [])

    def test_nothing_else_lies_in_the_package(self):
        others = [path for path in PACKAGE.rglob("*") if path.is_file() and path.suffix != ".py"
                  and path.parent.name != "__pycache__"]
        self.assertEqual(others, [])


class ReaderTest(unittest.TestCase):
    def assert_broken(self, rule, texts):
        found = {fault.split(" ")[0] for fault in faults(texts)}
        self.assertIn(rule, found)

    def test_each_broken_rule_is_seen(self):
        for rule, text in BROKEN:
            with self.subTest(rule=rule, text=text):
                self.assert_broken(rule, {"__init__.py": "", "other.py": OTHER, "core.py": text})

    def test_rules_broken_by_several_files_are_seen(self):
        for rule, texts in BROKEN_FILES:
            with self.subTest(rule=rule, texts=texts):
                self.assert_broken(rule, texts)

    def test_what_keeps_to_the_rules_has_no_fault(self):
        self.assertEqual(faults({"__init__.py": "", "other.py": OTHER, "core.py": KEPT}), [])


if __name__ == "__main__":
    unittest.main()
