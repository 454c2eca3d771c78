"""The package keeps to ../shared/LANGUAGE.md, as far as language.py sees it; and language.py sees it."""

import pathlib
import unittest

import fencerow
from language import Looker

FOLDER = pathlib.Path(fencerow.__file__).parent
GOOD = '''"""A file as the rules have it."""

from fencerow.other import Other, made

MOST = 3
WORDS = ("a", "b")


class Pair(Other):
    """Two."""

    def __init__(self, left, right):
        Other.__init__(self)
        self.left = left
        self.right = right

    def both(self, most=3):
        return [one for one in (self.left, self.right) if one is not None and one <= most]


def counted(words):
    many = {}
    for place, word in enumerate(words):
        many[word] = many.get(word, 0) + place
    try:
        found = many["a"]
    except KeyError:
        raise ValueError(f"none of {words!r}") from None
    return sorted(set(words)), found, len(set(words) - set(WORDS)), "\\n".join(words), 2 ** 3, made()
'''
OTHER = '''class Other:
    pass


def made():
    return Other()
'''
BAD = (
    ("L2", "from fencerow.nowhere import thing"), ("L2", "from random import choice"),
    ("L2", "from .other import made"), ("L2", "from fencerow.other import *"),
    ("L2", "def f():\n    from fencerow.other import made\n    return made()"),
    ("L16", "import random"), ("L16", "import fencerow.other"), ("L16", "from fencerow.other import gone"),
    ("L3", "print(3)"), ("L3", "if True:\n    X = 3"), ("L3", "X = len((1, 2))"),
    ("L4", "def f(*xs):\n    return xs"), ("L4", "def f(**xs):\n    return xs"), ("L4", "def f(*, x):\n    return x"),
    ("L4", "def g(h):\n    return h\n\n\n@g\ndef f():\n    return 1"), ("L4", "def f(x=[]):\n    return x"),
    ("L5", "class A:\n    x = 3"), ("L5", "class A(ValueError, KeyError):\n    pass"),
    ("L6", "def f(x):\n    with x:\n        pass"), ("L6", "def f(x):\n    assert x"), ("L6", "def f(x):\n    del x"),
    ("L6", "def f(x):\n    yield x"), ("L6", "def f(x):\n    a = b = x\n    return a + b"),
    ("L6", "def f(x):\n    for y in x:\n        pass\n    else:\n        pass"), ("L6", "def f(x):\n    x + 1"),
    ("L6", "def f(x):\n    try:\n        x()\n    finally:\n        x()"),
    ("L7", "X = 1.5"), ("L7", "X = b'a'"), ("L7", "def f(x):\n    return x / 2"),
    ("L7", "def f(x):\n    return all(y for y in x)"), ("L7", "def f(x):\n    return {y: 1 for y in x}"),
    ("L7", "def f(x):\n    return [*x]"), ("L7", "def f(x):\n    return [z for y in x for z in y]"),
    ("L7", "def f(x):\n    return f'{x + 1}'"), ("L7", "def f(x):\n    return f'{x:3}'"),
    ("L8", "def f(x):\n    return map(f, x)"), ("L8", "def f(x):\n    return hash(x)"), ("L8", "def f(x):\n    print(x)"),
    ("L10", "def f(x):\n" + "    x = x + 1\n" * 40), ("L10", "X = 1\n" * 401), ("L10", "X = '" + "a" * 120 + "'"),
    ("L10", "def f(x):\n\treturn x"),
    ("L12", "def _f(x):\n    return x"), ("L12", "def f(x):\n    _ = x\n    return x"), ("L12", "def f(x):\n    return x._y"),
    ("L14", "X = '\u00e9'"),
    ("L15", "X = 1\nX = 2"), ("L15", "def f(x):\n    hash = x\n    return hash"), ("L15", "def f(id):\n    return id"),
    ("L15", "class A:\n    pass\n\n\ndef f(A):\n    return A"),
    ("L17", "def f(x):\n    return open(x)"), ("L17", "# of this type"), ("L17", "def f(x):\n    return x.mro"),
    ("L17", "X = 'some dataclasses'"), ("L17", "def f(x):\n    return getattr(x, 'a')"),
    ("L18", "class A:\n    def a(self):\n        return 1\n\n\nclass B:\n    def __init__(self):\n        self.a = 1"),
    ("L19", "def f(x):\n    try:\n        x()\n    except Exception:\n        pass"),
    ("L19", "def f(x):\n    try:\n        x()\n    except (KeyError, TypeError):\n        pass"),
    ("L19", "def f(x):\n    try:\n        x()\n    except:\n        pass"), ("L19", "def f():\n    raise ValueError"),
    ("L20", "def f(x):\n    return x is f"),
    ("L21", "def f(x: int):\n    return x"), ("L21", "def f(x) -> int:\n    return x"),
    ("L22", "def f(x):\n    return int(x, base=2)"),
    ("L23", "def f(x):\n    return zip(x, x)"), ("L23", "def f(x):\n    y = x.items()\n    return y"),
    ("L24", "def f(x):\n    y = set(x)\n    return y"), ("L24", "def f(x):\n    return [y for y in {x}]"),
    ("L25", "def f(x):\n    x.sort()"), ("L25", "def f(x):\n    return x.encode()"),
    ("L26", "class A:\n    def __init__(self):\n        self.items = 1"), ("L26", "class A:\n    def sort(self):\n        return 1"),
    ("L27", "def f(n):\n    return 2 ** n"), ("L27", "X = 'a%s'"), ("L27", "X = '\\x41'"),
)


def looked(text, **more):
    files = {"__init__.py": "", "other.py": OTHER, "one.py": text}
    files.update({f"{name}.py": rows for name, rows in more.items()})
    return Looker("fencerow", files).look()


class Package(unittest.TestCase):
    def test_it_holds_plain_files_alone(self):
        held = sorted(path.name for path in FOLDER.iterdir() if path.name != "__pycache__")
        self.assertEqual([name for name in held if not name.endswith(".py")], [])

    def test_it_keeps_to_the_rules(self):
        files = {path.name: path.read_text(encoding="utf-8") for path in FOLDER.glob("*.py")}
        self.assertEqual(Looker("fencerow", files).look(), [])


class Looking(unittest.TestCase):
    def test_a_good_file_is_let_be(self):
        self.assertEqual(looked(GOOD), [])

    def test_each_bad_one_is_told_by_its_rule(self):
        for rule, text in BAD:
            with self.subTest(rule=rule, text=text):
                self.assertIn(rule, [found for file, line, found in looked(text)])

    def test_files_that_draw_from_one_another_are_told(self):
        ring = looked("from fencerow.two import B\n\nA = 1", two="from fencerow.one import A\n\nB = 1")
        self.assertEqual(ring, [("", 0, "L16")])

    def test_bad_names_of_files_are_told(self):
        for name in ("test_one", "typing", "filter", "tests"):
            self.assertEqual(looked("", **{name: ""}), [(f"{name}.py", 0, "L14")])
        self.assertEqual(looked("", Upper=""), [("Upper.py", 0, "L1")])

    def test_the_file_and_line_are_told(self):
        self.assertEqual(looked("X = 1\nY = 2.5"), [("one.py", 2, "L7")])


if __name__ == "__main__":
    unittest.main()
