"""The form of the code: the package keeps to LANGUAGE.md, L1 to L28."""

import inspect
import os
import unittest

import sayback
from language_rules import faults
from sayback.readings import answers

FOLDER = os.path.dirname(os.path.abspath(sayback.__file__))
DOC = '"""A file."""\n'
WRONG = [
    ("L2", "import sys"), ("L2", "from sayback.readings import *"), ("L2", "from .readings import answers"),
    ("L2", "from os import path"), ("L2", "from sayback.readings import answers as f"),
    ("L2", "def f():\n    from sayback.readings import answers"),
    ("L3", "f()"), ("L3", "A = len"), ("L3", "A = 1 + 1"), ("L3", "for x in (1, 2):\n    pass"), ("L3", "A = 1.5"),
    ("L4", "def f(*xs):\n    return xs"), ("L4", "def f(**xs):\n    return xs"), ("L4", "def f(*, x):\n    return x"),
    ("L4", "def f(x=[]):\n    return x"), ("L4", "def f(x=-1):\n    return x"),
    ("L4", "def g(x):\n    return x\n\n\n@g\ndef f(x):\n    return x"),
    ("L5", "class A:\n    x = 1"), ("L5", "class A(list):\n    pass"), ("L5", "class A(ValueError, KeyError):\n    pass"),
    ("L6", "def f(x):\n    with x:\n        pass"), ("L6", "def f(x):\n    assert x"), ("L6", "def f(x):\n    del x"),
    ("L6", "def f():\n    global x"), ("L6", "def f(x):\n    a = b = x\n    return a + b"),
    ("L6", "def f(x):\n    while x:\n        x = 0\n    else:\n        x = 1"), ("L6", "def f(x):\n    x"),
    ("L6", "def f(x):\n    try:\n        x()\n    finally:\n        x()"), ("L6", "async def f(x):\n    return x"),
    ("L7", "def f(x):\n    return x / 2"), ("L7", "def f():\n    return 0.5"), ("L7", "def f():\n    return b'x'"),
    ("L7", "def f(x):\n    return {y: 1 for y in x}"), ("L7", "def f(x):\n    return sum(y for y in x)"),
    ("L7", "def f(x):\n    return (y := x)"), ("L7", "def f(x):\n    return [*x]"), ("L7", "def f(x):\n    return max(*x)"),
    ("L7", "def f(x):\n    return [z for y in x for z in y]"), ("L7", "def f(x):\n    return f'{x:3}'"),
    ("L7", "def f(x):\n    return [y for y in x if y if y > 1]"), ("L7", "def f(x):\n    yield x"),
    ("L8", "def f(x):\n    return filter(f, x)"), ("L8", "def f(x):\n    return bytes(x)"), ("L8", "def f(x):\n    print(x)"),
    ("L10", "def f(x):\n" + "    x = 1\n" * 40), ("L10", "A = 1\n" * 400), ("L10", "# " + "x" * 119),
    ("L10", "def f(x):\n\treturn x"),
    ("L11", "def f(x):\n    return f(x - 1) if x else 0"),
    ("L12", "def f(x):\n    _y = x\n    return _y"), ("L12", "def _f(x):\n    return x"), ("L12", "def f(_):\n    return 1"),
    ("L13", "def f(x):\n    return (lambda y: y)((lambda y: x))"),
    ("L14", "# \u00e9"), ("L14", "A = '\u65e5'"),
    ("L15", "A = 1\nA = 2"), ("L15", "A = [[1], [2]]"), ("L15", "A = ({},)"), ("L15", "A = [1]\n\n\ndef f():\n    A.append(2)"),
    ("L15", "A = [1]\n\n\ndef f():\n    A[0] = 2"), ("L15", "A = [1]\n\n\ndef f():\n    return A"),
    ("L15", "def f(min):\n    return min"), ("L15", "def f(x):\n    hash = x\n    return hash"),
    ("L15", "class A:\n    pass\n\n\ndef f(A):\n    return A"), ("L15", "def f():\n    class A:\n        pass"),
    ("L15", "from sayback.readings import answers\n\n\ndef f(answers):\n    return answers"),
    ("L16", "def answers(calls):\n    return calls"), ("L16", "from sayback.readings import nowhere"),
    ("L16", "from sayback.extra import f\n\n\ndef f(x):\n    return x"),
    ("L17", "# a type of it"), ("L17", "A = 'enum'"), ("L17", "# dataclasses"), ("L17", "def f(x):\n    return x.mro"),
    ("L17", "def f(dir):\n    return dir"), ("L17", "def f(x):\n    return getattr(x, 'a')"), ("L17", "def f(x):\n    os = x"),
    ("L18", "class A:\n    pass\n\n\ndef f():\n    return [A]"), ("L18", "class A(StopIteration):\n    pass"),
    ("L18", "class A:\n    def a(self):\n        self.a = 1"),
    ("L18", "class A:\n    pass\n\n\ndef f():\n    A.b = 1"),
    ("L18", "class A:\n    def a(self):\n        return 1\n\n    def a(self):\n        return 2"),
    ("L19", "def f(x):\n    try:\n        x()\n    except Exception:\n        pass"), ("L19", "def f(x):\n    raise x"),
    ("L19", "def f(x):\n    try:\n        x()\n    except:\n        pass"), ("L19", "def f(x):\n    raise ValueError"),
    ("L19", "def f(x):\n    try:\n        x()\n    except ValueError:\n        pass"),
    ("L20", "def f(x):\n    return x is 1"), ("L20", "def f(x, y):\n    return x is not y"),
    ("L21", "def f(x: int):\n    return x"), ("L21", "def f(x) -> int:\n    return x"), ("L21", "def f(x):\n    y: int = x"),
    ("L22", "def f(x):\n    return sorted(x, key=ord)"), ("L22", "def f(x):\n    g = len\n    return g(x)"),
    ("L22", "def f(x):\n    return int(x, base=16)"), ("L22", "def f(x, y):\n    return sorted(x, reverse=y)"),
    ("L23", "def f(x):\n    return zip(x, x)"), ("L23", "def f(x):\n    y = range(x)\n    return y"),
    ("L23", "def f(x):\n    for y in x:\n        x.append(y)"), ("L23", "def f(x):\n    y = x.items()\n    return y"),
    ("L23", "def f(x):\n    for y, z in enumerate(x):\n        x[y] = 1"),
    ("L23", "def f(x):\n    for y in x:\n        x += [y]"),
    ("L24", "def f(x):\n    return set(x)"), ("L24", "def f(x):\n    return {x}"), ("L24", "def f(x):\n    return {y for y in x}"),
    ("L25", "def f(x):\n    return x.encode()"), ("L25", "def f(x):\n    x.sort()"), ("L25", "def f(x):\n    return x.append"),
    ("L26", "class A:\n    def __init__(self):\n        self.items = 1"), ("L26", "def f(x):\n    x.args = 1"),
    ("L26", "class A:\n    def encode(self):\n        return 1"),
    ("L27", "def f(x):\n    return 2 ** x"), ("L27", "A = '%d'"), ("L27", "def f(x):\n    return chr(x)"),
    ("L27", "A = '\\x41'"), ("L27", "A = '\\u0041'"), ("L27", "A = " + "9" * 901),
    ("L28", "class A:\n    def __eq__(self, other):\n        return True"),
    ("L28", "class A:\n    def __init__(self):\n        return None"),
]


def sources():
    """The package's files: their names and sources; a file that isn't one of Python's shows as an empty one."""
    found = {}
    for name in sorted(os.listdir(FOLDER)):
        path = os.path.join(FOLDER, name)
        if name == "__pycache__":
            continue
        found[name] = ""
        if name.endswith(".py"):
            with open(path, "rb") as file:
                found[name] = file.read().decode("utf-8")
    return found


class TestLanguage(unittest.TestCase):
    def test_the_package_keeps_to_it(self):
        self.assertEqual(faults(sources()), [])

    def test_what_breaks_a_rule_is_found(self):
        for rule, source in WRONG:
            files = dict(sources())
            files["extra.py"] = DOC + source + "\n"
            with self.subTest(rule=rule, source=source):
                self.assertIn(rule, [found[0] for found in faults(files)])

    def test_what_keeps_to_all_rules_is_left_alone(self):
        files = dict(sources())
        files["extra.py"] = DOC + "A = (1, 2)\n\n\ndef f(x):\n    return [y for y in x if y in A]\n"
        self.assertEqual(faults(files), [])

    def test_files_with_other_names(self):
        for rule, name in (("L1", "Extra.py"), ("L1", "extra.txt"), ("L1", "folder"), ("L14", "test_extra.py"),
                           ("L14", "tests.py"), ("L14", "range.py"), ("L14", "typing.py")):
            self.assertIn((rule, name, 0), faults({**sources(), name: DOC}))

    def test_files_that_draw_from_one_another(self):
        files = dict(sources())
        files["one.py"] = DOC + "from sayback.two import g\n\n\ndef f(x):\n    return g(x)\n"
        files["two.py"] = DOC + "from sayback.one import f\n\n\ndef g(x):\n    return f(x)\n"
        self.assertIn(("L16", "one.py", 0), faults(files))

    def test_without_a_beginning_of_the_package(self):
        files = sources()
        del files["__init__.py"]
        self.assertIn(("L14", "__init__.py", 0), faults(files))

    def test_the_interface_stands_as_it_is_told(self):
        self.assertEqual(str(inspect.signature(answers)), "(calls)")
        self.assertEqual(answers.__module__, "sayback.readings")


if __name__ == "__main__":
    unittest.main()
