"""The package keeps to LANGUAGE.md, and the check of that finds what breaks a rule."""

import os
import unittest

from tests.language import files_below, findings

FOLDER = os.path.join(os.path.dirname(os.path.dirname(os.path.abspath(__file__))), "wordworths")

SOUND = '''"""A file."""

from box.other import Thing, helper

LIMIT = -3
NAMES = ("one", ("two", None))


def work(numbers):
    """Work."""
    thing = Thing(LIMIT)
    kept = [x * 2 for x in numbers if x is not None]
    for k, x in enumerate(numbers):
        kept[k] += x ** 2
        kept.append(helper(x))
    while thing.level < 3:
        thing.raise_by(1)
    return kept + list(range(3)) + list(NAMES)


CALLS = (work,)
'''
OTHER = '''"""Another file."""


class Thing:
    """A thing."""

    def __init__(self, level):
        self.level = level

    def raise_by(self, much):
        self.level += much


def helper(x):
    return x if x > 0 else -x
'''
HEAD = '"""A file."""\n'


def found_in(text, path="file.py", other=OTHER):
    return findings("box", {"__init__.py": HEAD, "other.py": other, path: text})


def rules(found):
    return {line.split()[0] for line in found}


def body(*rows):
    return HEAD + "\n\ndef work(numbers, d):\n" + "".join(f"    {row}\n" for row in rows)


BROKEN = [
    ("L1", HEAD + "def\n"),
    ("L2", HEAD + "from os import path\n"),
    ("L2", HEAD + "from .other import helper\n"),
    ("L2", HEAD + "from box.other import *\n"),
    ("L2", HEAD + "X = 1\nfrom box.other import helper\n"),
    ("L2", body("from box.other import helper", "return helper(1)")),
    ("L3", HEAD + "X = [1, 2]\n"),
    ("L3", HEAD + "X = 1 + 2\n"),
    ("L3", HEAD + "if True:\n    X = 1\n"),
    ("L3", HEAD + "X = (work,)\n\n\ndef work():\n    return 1\n"),
    ("L4", HEAD + "def work(*rest):\n    return rest\n"),
    ("L4", HEAD + "def work(a, *, b):\n    return a\n"),
    ("L4", HEAD + "def work():\n    return 1\n\n\n@work\ndef more():\n    return 1\n"),
    ("L5", HEAD + "class A:\n    size = 1\n"),
    ("L5", HEAD + "class A(Exception):\n    pass\n"),
    ("L6", body("with d:", "    pass")),
    ("L6", body("assert d")),
    ("L6", body("del d[0]")),
    ("L6", body("a = b = d", "return a + b")),
    ("L6", body("a, b = d", "return a + b")),
    ("L6", body("for x in d:", "    pass", "else:", "    pass")),
    ("L6", body("numbers == d")),
    ("L6", body("try:", "    return 1", "finally:", "    pass")),
    ("L7", body("return 1.5")),
    ("L7", body("return 1 / 2")),
    ("L7", body("numbers /= 2")),
    ("L7", body("return b'x'")),
    ("L7", body("return sum(x for x in d)")),
    ("L7", body("return {x: 1 for x in d}")),
    ("L7", body("return [x for y in d for x in y]")),
    ("L7", body("return (x := 1)")),
    ("L7", body("return [*d]")),
    ("L7", body("return {1}")),
    ("L8", body("return hash(d)")),
    ("L8", body("return unknown")),
    ("L8", body("print(d)")),
    ("L8", HEAD + "def len(x):\n    return 1\n"),
    ("L10", body(*["pass"] * 40)),
    ("L10", body("return " + "1" * 120)),
    ("L10", HEAD + "# more\n" * 400),
    ("L12", body("_x = 1", "return _x")),
    ("L12", body("for _ in d:", "    pass")),
    ("L14", HEAD + "# \u00e9\n"),
    ("L14", HEAD + "#\tmore\n"),
    ("L14", HEAD + "# more\r\n"),
    ("L15", HEAD + "X = 1\nX = 2\n"),
    ("L15", body("class A:", "    pass")),
    ("L15", body("max = 1", "return max")),
    ("L15", HEAD + "from box.other import helper\n\n\ndef work(helper):\n    return helper\n"),
    ("L15", HEAD + "X = (1,)\n\n\ndef work():\n    X[0] = 2\n"),
    ("L16", HEAD + "import box.other\n"),
    ("L16", HEAD + "from box.other import missing\n"),
    ("L16", HEAD + "from box.other import helper as other_helper\n"),
    ("L17", body("return d.f_back")),
    ("L17", body("return type(d)")),
    ("L17", HEAD + "# the type of it\n"),
    ("L17", HEAD + "# overloaded\n"),
    ("L18", HEAD + "from box.other import Thing\n\n\ndef work():\n    return [Thing]\n"),
    ("L18", HEAD + "from box.other import Thing\n\n\ndef work():\n    Thing.level = 1\n"),
    ("L18", HEAD + "class A:\n    def one(self):\n        return 1\n\n    def one(self):\n        return 2\n"),
    ("L18", HEAD + "class A:\n    def level(self):\n        return 1\n"),
    ("L20", body("return numbers is d")),
    ("L21", HEAD + "def work(x: int):\n    return x\n"),
    ("L21", HEAD + "def work(x) -> int:\n    return x\n"),
    ("L22", body("return [len]")),
    ("L22", body("return sorted(d, reverse=True)")),
    ("L23", body("x = range(3)", "return list(x)")),
    ("L23", body("x = d.items()", "return list(x)")),
    ("L23", body("for x in d:", "    d.append(x)")),
    ("L23", body("for k, x in enumerate(d):", "    d[k] = x")),
    ("L23", body("for x in d.items():", "    d.update(x)")),
    ("L25", body("return d.sort()")),
    ("L25", body("return d.encode()")),
    ("L26", body("return d.append")),
    ("L26", HEAD + "class A:\n    def __init__(self):\n        self.items = 1\n"),
    ("L26", HEAD + "class A:\n    def sort(self):\n        return 1\n"),
    ("L27", body("return 2 ** d")),
    ("L27", body("d **= numbers")),
    ("L27", body("return 2 ** 65")),
    ("L27", body("return '%'")),
    ("L27", body("return '\\x41'")),
    ("L28", HEAD + "class A:\n    def __init__(self):\n        return None\n"),
    ("L28", HEAD + "class A:\n    def __len__(self):\n        return 1\n"),
]
# Left out by the check, so that their rules can't be broken: no set, error, lambda, f-string.
LEFT_OUT = [
    body("return {1, 2, 3}"),
    body("return lambda: 1"),
    body("return f'{d}'"),
    body("raise ValueError"),
    body("try:", "    return 1", "except KeyError:", "    return 2"),
    body("return isinstance(d, int)"),
    body("return set(d)"),
    body("def inner():", "    return 1", "return inner()"),
    body("return chr(1)"),
]


class ThePackage(unittest.TestCase):
    def test_keeps_to_the_rules(self):
        files = files_below(FOLDER)
        self.assertIn("machines.py", files)
        self.assertEqual(findings("wordworths", files), [])


class TheCheck(unittest.TestCase):
    def test_a_sound_file_passes(self):
        self.assertEqual(found_in(SOUND), [])

    def test_what_breaks_a_rule_is_found(self):
        for rule, text in BROKEN:
            with self.subTest(rule=rule, text=text):
                self.assertIn(rule, rules(found_in(text)))

    def test_what_is_left_out_is_found(self):
        for text in LEFT_OUT:
            with self.subTest(text=text):
                self.assertNotEqual(found_in(text), [])

    def test_file_names(self):
        for rule, path in (("L1", "notes.txt"), ("L14", "File.py"), ("L14", "test_x.py"), ("L14", "sum.py"),
                           ("L14", "typing.py"), ("L14", "__main__.py"), ("L14", "inner/file.py")):
            with self.subTest(path=path):
                self.assertIn(rule, rules(found_in(HEAD, path=path)))

    def test_files_that_draw_from_one_another(self):
        other = HEAD + "from box.file import one\n\n\ndef two():\n    return one()\n"
        text = HEAD + "from box.other import two\n\n\ndef one():\n    return two()\n"
        self.assertIn("L16", rules(found_in(text, other=other)))

    def test_the_package_needs_its_init(self):
        self.assertIn("L14", rules(findings("box", {"file.py": HEAD})))

    def test_init_binds_nothing(self):
        self.assertIn("L16", rules(findings("box", {"__init__.py": HEAD + "X = 1\n"})))


if __name__ == "__main__":
    unittest.main()
