"""The package keeps to its part of Python, and what leaves it would be seen."""

import pathlib
import unittest

from tests.form import PACKAGE, faults, package_faults

FOLDER = pathlib.Path(__file__).resolve().parent.parent / PACKAGE

OUTSIDE = [
    ("L2", "import sys\n"), ("L2", "from .rows import Row\n"), ("L2", "from ferrymemory.rows import *\n"),
    ("L2", "def f():\n    from ferrymemory.rows import Row\n    return Row\n"), ("L3", "X = 1 + 1\n"),
    ("L3", "for x in [1]:\n    pass\n"), ("L3", "X = f()\n"), ("L4", "def f(*a):\n    return a\n"),
    ("L4", "def f(**a):\n    return a\n"), ("L4", "@f\ndef g():\n    pass\n"), ("L4", "def f(a=g()):\n    pass\n"),
    ("L5", "class A:\n    x = 1\n"), ("L5", "class A(B, C):\n    pass\n"), ("L6", "def f(x):\n    assert x\n"),
    ("L6", "def f(x):\n    del x\n"), ("L6", "def f():\n    a = b = 1\n"),
    ("L6", "def f(x):\n    with x:\n        pass\n"),
    ("L6", "def f(x):\n    for y in x:\n        pass\n    else:\n        pass\n"),
    ("L7", "def f(x):\n    return x / 2\n"), ("L7", "def f():\n    return 1.5\n"),
    ("L7", "def f():\n    return b'a'\n"),
    ("L7", "def f(x):\n    return {y: y for y in x}\n"), ("L7", "def f(x):\n    return (y for y in x)\n"),
    ("L7", "def f(x):\n    return [y for z in x for y in z]\n"), ("L7", "def f(x):\n    return g(*x)\n"),
    ("L7", "def f(x):\n    return (y := x)\n"), ("L8", "def f(x):\n    return map(f, x)\n"),
    ("L8", "def f(x):\n    print(x)\n"), ("L8", "def f(x):\n    return chr(x)\n"),
    ("L8", "def f(x):\n    return bytes(x)\n"), ("L10", "def f():\n" + "    pass\n" * 40),
    ("L10", "# " + "x" * 119 + "\n"),
    ("L10", "X = 1\n" * 401), ("L12", "def f():\n    _x = 1\n    return _x\n"), ("L14", "# caf\u00e9\n"),
    ("L15", "X = 1\nX = 2\n"), ("L15", "X = [[1]]\n"), ("L15", "def f(min):\n    return min\n"),
    ("L15", "X = [1]\n\n\ndef f():\n    X.append(2)\n"), ("L15", "X = [1]\n\n\ndef f():\n    X[0] = 2\n"),
    ("L15", "X = [1]\n\n\ndef f():\n    return X\n"),
    ("L15", "from ferrymemory.rows import Row\n\n\ndef f(Row):\n    return Row\n"), ("L17", "# a type\n"),
    ("L17", "def f(x):\n    return x.elements\n"), ("L17", "def f(x):\n    return getattr(x, 'y')\n"),
    ("L18", "class A(StopIteration):\n    pass\n"), ("L18", "class A:\n    def f(self):\n        pass\n\n"
                                                    "    def f(self):\n        pass\n"),
    ("L18", "class A:\n    pass\n\n\ndef f():\n    return A\n"),
    ("L18", "from ferrymemory.rows import Row\n\n\ndef f():\n    return [Row]\n"),
    ("L18", "class A:\n    pass\n\n\ndef f():\n    A.x = 1\n"),
    ("L19", "def f():\n    try:\n        g()\n    except Exception:\n        pass\n"),
    ("L19", "def f():\n    try:\n        g()\n    except:\n        pass\n"), ("L19", "def f(e):\n    raise e\n"),
    ("L20", "def f(x, y):\n    return x is y\n"), ("L21", "def f(x: int):\n    return x\n"),
    ("L22", "def f(x):\n    y = len\n    return y(x)\n"), ("L22", "def f(x):\n    return list(x, key=1)\n"),
    ("L23", "def f(x):\n    y = zip(x, x)\n    return y\n"), ("L23", "def f(x):\n    return x.items()\n"),
    ("L23", "def f(x):\n    for y in x:\n        x.append(y)\n"),
    ("L23", "def f(x):\n    for y, z in enumerate(x):\n        x[y] = z\n"), ("L24", "def f():\n    return {1, 2}\n"),
    ("L25", "def f(x):\n    y = x.append\n    return y\n"),
    ("L26", "class A:\n    def __init__(self):\n        self.values = 1\n"),
    ("L26", "class A:\n    def sort(self):\n        pass\n"), ("L27", "def f(n):\n    return 2 ** n\n"),
    ("L27", "X = 'a%'\n"), ("L28", "class A:\n    def __init__(self):\n        return None\n"),
]


class FormTest(unittest.TestCase):
    def sources(self):
        return {path.name: path.read_text("utf-8") for path in FOLDER.iterdir() if path.name != "__pycache__"}

    def test_each_file(self):
        for name, source in self.sources().items():
            self.assertEqual(faults(source), [], name)

    def test_all_files_together(self):
        self.assertIn("__init__.py", self.sources())
        self.assertEqual(package_faults(self.sources()), [])

    def test_what_leaves_the_rules_is_seen(self):
        for rule, source in OUTSIDE:
            self.assertIn(rule, [found[0] for found in faults(source)], source)

    def test_what_files_break_together_is_seen(self):
        cases = [
            ("L1", {"Rows.py": ""}), ("L14", {"filter.py": ""}), ("L14", {"test_rows.py": ""}),
            ("L16", {"a.py": "from ferrymemory.b import f\n", "b.py": "from ferrymemory.a import f\n"}),
            ("L16", {"a.py": "from ferrymemory.b import f\n", "b.py": ""}),
            ("L18", {"a.py": "class A:\n    def f(self):\n        pass\n",
                     "b.py": "class B:\n    def __init__(self):\n        self.f = 1\n"}),
            ("L25", {"a.py": "def f(x):\n    return x.encode()\n"}),
        ]
        for rule, sources in cases:
            self.assertIn(rule, [found[0] for found in package_faults(sources)], sources)


if __name__ == "__main__":
    unittest.main()
