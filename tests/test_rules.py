"""The reader of the rules of LANGUAGE.md itself: that it finds what breaks a rule, and nothing else."""

import unittest

import rules

PER_CENT = chr(37)

GOOD = '''"""A module."""

from sealchart.other import MOST, Wrong, other

_NAMES = ("a", "b")
_TABLE = {"a": 1, "b": (2, 3)}
_LEAST = -1


class Box:
    """A box."""

    def __init__(self, first, second=(1, -2)):
        self._rows = [first]
        self.many = second

    def count(self):
        return len(self._rows)

    def told(self, key):
        row = self._rows
        for name in list(row):
            row.append(name)
        return {name: at for at, name in enumerate(row, start=1) if name in _NAMES}


def size(words):
    """The size, 3 to 4 of a kind."""
    if words is None or not isinstance(words, (list, tuple)):
        raise Wrong("no words")
    try:
        box = Box(other(words))
    except Wrong:
        return 2 ** 10
    first, *rest = sorted(sorted(set(words)), reverse=True)
    text = ", ".join(f"{word:>5}" for word in rest)
    for one, two in zip(rest, words):
        box.many += len({one, two}) + _TABLE["a"]
    for _ in range(MOST):
        text = text.replace("a", "\\n\\"")
    return max(rest, key=len), first, text, sum(1 for word in rest if word == text), box.told(key=text)
'''

OTHER = '''"""Another module."""

MOST = 3


class Wrong(ValueError):
    """An error."""


def other(words):
    return words
'''

# A rule, and rows of a function that break it.
ROWS = [
    ("L6", "import math\nreturn math"),
    ("L6", "global a\na = 1"),
    ("L6", "with a:\n    pass"),
    ("L6", "a"),
    ("L6", "try:\n    return 1\nfinally:\n    a = 2"),
    ("L7", "return a / 2"),
    ("L7", "return 1.5"),
    ("L7", "return b'a'"),
    ("L7", "return r'a'"),
    ("L7", "return a @ a"),
    ("L7", "yield a"),
    ("L7", "return max(*a)"),
    ("L7", "b = (x for x in a)\nreturn b"),
    ("L7", "return ','.join(x for x in a) + a.join(x for x in a)"),
    ("L7", "return f'{a:10.123d}'"),
    ("L7", "return f'{a!a}'"),
    ("L7", "return 'a'(a)"),
    ("L8", "return print(a)"),
    ("L8", "return hash(a)"),
    ("L8", "return open_file(a)"),
    ("L8", "return chr(a)"),
    ("L12", "for _ in a:\n    return _"),
    ("L12", "__a = 1\nreturn __a"),
    ("L12", "_wall = 1\nreturn _wall"),
    ("L15", "max = 1\nreturn max"),
    ("L15", "hash = 1\nreturn hash"),
    ("L15", "other = 1\nreturn other"),
    ("L15", "Wrong = 1\nreturn Wrong"),
    ("L15", "for other in a:\n    pass"),
    ("L17", "type = 1"),
    ("L17", "mro = 1"),
    ("L17", "elements = 1"),
    ("L17", "return 'enum'"),
    ("L17", "return 'my_dataclasses'"),
    ("L17", "id = 1"),
    ("L18", "a.b.c = 1"),
    ("L18", "return [Wrong]"),
    ("L18", "return other(Wrong)"),
    ("L19", "try:\n    return other(a)\nexcept Exception:\n    return 1"),
    ("L19", "try:\n    return other(a)\nexcept ValueError:\n    return 1"),
    ("L19", "try:\n    return other(a)\nexcept (Wrong, TypeError):\n    return 1"),
    ("L19", "raise a"),
    ("L19", "raise other(a)"),
    ("L19", "raise Wrong"),
    ("L20", "return a is a"),
    ("L20", "return a is not 1000"),
    ("L22", "return map_of(len)"),
    ("L22", "return other(len)"),
    ("L22", "return other(list)"),
    ("L22", "return len(obj=a)"),
    ("L22", "return int(a, base=10)"),
    ("L22", "return 'a'.split(sep=',')"),
    ("L22", "return isinstance(a, set)"),
    ("L22", "return isinstance(a, max)"),
    ("L23", "b = zip(a, a)\nreturn b"),
    ("L23", "return other(range(3))"),
    ("L23", "return set(a.items())"),
    ("L23", "return len(enumerate(a))"),
    ("L23", "return all(x == y for x, y in zip(a, a))"),
    ("L23", "for x in a:\n    a.append(x)"),
    ("L23", "for x in a:\n    a[x] = 1"),
    ("L23", "for x, y in a.items():\n    del a[x]"),
    ("L23", "for at, x in enumerate(a):\n    a.pop()"),
    ("L24", "return set(a)"),
    ("L24", "return {1, 2}"),
    ("L24", "for x in set(a):\n    pass"),
    ("L24", "b = {x for x in a}\nreturn b"),
    ("L24", "return list(set(a))"),
    ("L24", "return sorted(set(a), key=len)"),
    ("L25", "return a.isprintable()"),
    ("L25", "return a.partitions()"),
    ("L25", "return a.split"),
    ("L25", "return a.intersection(a)"),
    ("L26", "a.items = 1"),
    ("L26", "a.encode = 1"),
    ("L27", "return 2 ** a"),
    ("L27", "return 2 ** 65"),
    ("L27", "return '" + PER_CENT + "'"),
    ("L27", "return f'{a}" + PER_CENT + "'"),
    ("L27", "return '\\x41'"),
    ("L27", "return '\\r'"),
    ("L27", "return '\\u0041'"),
    ("L27", "return 'a._'"),
    ("L27", "return '__a__'"),
    ("L10", "return '" + "a" * 110 + "'"),
    ("L10", "a = 1\n" * 40),
    ("L14", "return '\u00e9'"),
    ("L14", "return 1  # \u2026"),
    ("L14", "return '\t'"),
]

# A rule, and a text that breaks it at module level, in a class or in the head of a function.
FILES = [
    ("L2", "import math\n"),
    ("L2", "from os import path\n"),
    ("L2", "from .other import other\n"),
    ("L16", "from sealchart import other\n"),
    ("L2", "A = 1\nfrom sealchart.other import other\n"),
    ("L2", "def f():\n    from sealchart.other import other\n    return other\n"),
    ("L16", "from sealchart.other import *\n"),
    ("L16", "from sealchart.other import other as another\n"),
    ("L16", "from sealchart.other import nothing\n"),
    ("L16", "from sealchart.third import other\n"),
    ("L16", "from sealchart.ring import ring\n\n\ndef sample():\n    return ring\n"),
    ("L16", "from sealchart.sample import sample\n\n\ndef sample():\n    return 1\n"),
    ("L3", "A, B = 1, 2\n"),
    ("L3", "A = B = 1\n"),
    ("L3", "A = len('a')\n"),
    ("L3", "A = [[1]]\n"),
    ("L3", "A = {1, 2}\n"),
    ("L3", "A = 1 // 0\n"),
    ("L3", "A = [1] + 2\n"),
    ("L3", "A = {[]: 1}\n"),
    ("L3", "A = [x for x in 'a']\n"),
    ("L3", "if True:\n    pass\n"),
    ("L3", "for A in (1, 2):\n    pass\n"),
    ("L4", "def f(a, b=[]):\n    return a\n"),
    ("L4", "def f(*a):\n    return a\n"),
    ("L4", "def f(a, *, b):\n    return a\n"),
    ("L4", "def g():\n    return 1\n\n\n@g\ndef f(a):\n    return a\n"),
    ("L5", "class A:\n    X = []\n"),
    ("L5", "class A(metaclass=1):\n    pass\n"),
    ("L5", "def g():\n    return 1\n\n\n@g\nclass A:\n    pass\n"),
    ("L5", "class A:\n    def f():\n        return 1\n"),
    ("L6", "async def f(a):\n    return a\n"),
    ("L10", "A = 1  # why\n" + "\n" * 399),
    ("L12", "class A:\n    def __hash__(self):\n        return 1\n"),
    ("L12", "class A:\n    def __len__(self):\n        return 1\n"),
    ("L15", "A = 1\nA = 2\n"),
    ("L15", "def f():\n    return 1\n\n\ndef f():\n    return 2\n"),
    ("L15", "def min(a):\n    return a\n"),
    ("L15", "def f(list):\n    return list\n"),
    ("L15", "def f(a):\n    class B:\n        pass\n    return a\n"),
    ("L15", "class B:\n    pass\n\n\ndef f(B):\n    return B\n"),
    ("L17", "def law(a):\n    return a\n"),
    ("L17", "class A:\n    def open(self):\n        return 1\n"),
    ("L17", "class A:\n    def len(self):\n        return 1\n"),
    ("L17", "class Enum:\n    pass\n"),
    ("L18", "class A:\n    def f(self):\n        return 1\n\n    def f(self):\n        return 2\n"),
    ("L18", "class A:\n    def __init__(self):\n        self.f = 1\n\n    def f(self):\n        return 2\n"),
    ("L18", "class A:\n    def __init__(self):\n        self.f = 1\n\n\nclass B:\n    def f(self):\n        pass\n"),
    ("L21", "def f(a: int):\n    return a\n"),
    ("L26", "class A:\n    def decode(self):\n        return 1\n"),
    ("L28", "class A:\n    def __init__(self):\n        return None\n"),
]

RING = "from sealchart.sample import sample\n\n\ndef ring():\n    return sample\n"
THIRD = "from sealchart.other import other\n\n\ndef third():\n    return other\n"


def broken(text):
    """The rules that the module sample breaks, beside others that it may import from."""
    texts = {"sealchart": "", "sealchart.other": OTHER, "sealchart.third": THIRD, "sealchart.sample": text}
    if "ring" in text:
        texts["sealchart.ring"] = RING
    return {rule for rule, module, _ in rules.package_faults(texts) if module == "sealchart.sample"}


def in_function(rows):
    head = "from sealchart.other import Wrong, other\n\n\ndef sample(a):\n"
    return head + "".join("    " + row + "\n" for row in rows.splitlines())


class Reader(unittest.TestCase):
    def test_what_keeps_the_rules(self):
        self.assertEqual(rules.package_faults({"sealchart.other": OTHER, "sealchart.sample": GOOD}), [])

    def test_rows_that_break_a_rule(self):
        for rule, rows in ROWS:
            with self.subTest(rows[:60]):
                self.assertIn(rule, broken(in_function(rows)))

    def test_files_that_break_a_rule(self):
        for rule, text in FILES:
            with self.subTest(text[:60]):
                self.assertIn(rule, broken(text))

    def test_lengths(self):
        for many, rule in [(39, set()), (40, {"L10"})]:
            with self.subTest(many):
                self.assertEqual(broken("def f():\n" + "    a = 1\n" * (many - 1) + "    return a\n"), rule)
        for many, rule in [(399, set()), (400, {"L10"})]:
            with self.subTest(many):
                self.assertEqual(broken("A = 1\n" + "\n" * (many - 2) + "B = 1\n"), rule)
        for many, rule in [(120, set()), (121, {"L10"})]:
            with self.subTest(many):
                self.assertEqual(broken("A = 1  # " + "a" * (many - 9) + "\n"), rule)


if __name__ == "__main__":
    unittest.main()
