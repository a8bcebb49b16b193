"""That all files of the package keep the rules of LANGUAGE.md, and that breaches of these are seen."""

import ast
import sys
import unittest
import warnings
from pathlib import Path

import afloatintime
from tests.language_rules import faults

FOLDER = Path(afloatintime.__file__).parent


def texts():
    return {path.name: path.read_text(encoding="utf-8") for path in FOLDER.glob("*.py")}


GOOD = '''"""A file."""

from math import gcd

from afloatintime.errors import Bad

MOST = 9
NAMES = ("a", "b")
TABLE = {"a": 1}


class Box:
    """A box."""

    def __init__(self, rows):
        self.rows = rows

    def __eq__(self, other):
        return isinstance(other, Box) and self.rows == other.rows

    def many(self):
        return len(self.rows)

    def tried(self, look, *, keep=False):
        rows = self.rows
        stays = None
        try:
            told = look(self)
            if keep is True:
                stays = True
        finally:
            if stays is None:
                self.rows, stays = rows, 1
            rows = None
        return told


def told(rows, most=MOST_OF):
    """All that is told."""
    found = []
    for at, row in enumerate(rows):
        if row is not None and at < MOST:
            found.append((at, gcd(row, 4) ** 2))
    if not found:
        raise Bad(rows)
    return sorted(found, key=lambda row: row[0])
'''.replace(", most=MOST_OF", ", most=9")

BASE = {
    "errors.py": '''"""Errors."""


class Bad(ValueError):
    """Bad."""

    def __init__(self, value):
        self.value = value
'''
}

# What breaks a rule, put behind the good file, or a whole file where the rule is one of whole files.
BREACHES = (
    ("L10", "\ndef long():\n" + "    x = 1\n" * 40),
    ("L10", "\n# " + "x" * 119),
    ("L10", "\n" * 400),
    ("L10", "\ndef f():\n\treturn 1\n"),
    ("L14", "\n# \u00e9\n"),
    ("L12", "\n# _wall\n"),
    ("L12", "\ndef f():\n    __x = 1\n    return __x\n"),
    ("L12", "\ndef f(rows):\n    for _ in rows:\n        return _\n"),
    ("L12", "\ndef f(a__):\n    return a__.__class__\n"),
    ("L27", "\nX = 'a\\x41'\n"),
    ("L27", "\nX = '5 %'\n"),
    ("L27", "\nX = 'a._'\n"),
    ("L27", "\nX = '__odd__'\n"),
    ("L27", "\ndef f(a, b):\n    return a ** b\n"),
    ("L17", "\nX = 'type of it'\n"),
    ("L17", "\ndef f(id):\n    return id\n"),
    ("L17", "\ndef f(box):\n    return box.register\n"),
    ("L17", "\ndef law():\n    return 1\n"),
    ("L2", "\nimport math\n"),
    ("L2", "\nfrom math import lcm\n"),
    ("L2", None, "from math import sqrt\n"),
    ("L2", None, "from os import path\n"),
    ("L2", None, "from afloatintime.errors import *\n"),
    ("L2", None, "from afloatintime.errors import Bad as Worse\n"),
    ("L2", None, "from .errors import Bad\n"),
    ("L16", None, "from afloatintime.errors import ValueError\n"),
    ("L16", None, "from afloatintime.good import told\n"),
    ("L3", "\nprint(1)\n"),
    ("L3", "\nX = len('a')\n"),
    ("L3", "\nX, Y = 1, 2\n"),
    ("L3", "\nX = [[1]]\n"),
    ("L3", "\nif MOST:\n    X = 1\n"),
    ("L15", "\nMOST = 8\n"),
    ("L15", "\ndef f(Box):\n    return Box\n"),
    ("L15", "\ndef f(gcd):\n    return gcd\n"),
    ("L15", "\ndef f(max):\n    return max\n"),
    ("L15", "\ndef hash(x):\n    return x\n"),
    ("L15", "\ndef f():\n    class Inner:\n        pass\n"),
    ("L6", "\nasync def f():\n    return 1\n"),
    ("L6", "\ndef f():\n    global MOST\n    MOST = 1\n"),
    ("L6", "\ndef f(x):\n    with x:\n        return 1\n"),
    ("L6", "\ndef f(x):\n    x == 1\n"),
    ("L6", "\ndef f(x):\n    try:\n        return x\n    finally:\n        x = -1\n"),
    ("L6", "\ndef f(x):\n    try:\n        return x\n    finally:\n        x.run()\n"),
    ("L6", "\ndef f(x):\n    try:\n        return x\n    finally:\n        x[0] = 1\n"),
    ("L6", "\ndef f(x):\n    try:\n        return x\n    finally:\n        x -= x\n"),
    ("L6", "\ndef f(x):\n    try:\n        return x\n    finally:\n        return 1\n"),
    ("L6", "\ndef f(x):\n    try:\n        return x\n    finally:\n        if x:\n            x = 1\n"),
    ("L6", "\ndef f(x):\n    try:\n        return x\n    finally:\n        if x is True:\n            x = 1\n"),
    ("L6", "\ndef f(x):\n    try:\n        return x\n    finally:\n        x = x - 1\n"),
    ("L6", "\ndef f(x):\n    try:\n        y = x\n    finally:\n        x.rows = y\n"),
    ("L7", "\nX = 1.5\n"),
    ("L7", "\nX = b'a'\n"),
    ("L7", "\ndef f(a):\n    return a / 2\n"),
    ("L7", "\ndef f(a):\n    return {1, a}\n"),
    ("L7", "\ndef f(a):\n    return {x for x in a}\n"),
    ("L7", "\ndef f(a):\n    return any(x for x in a)\n"),
    ("L7", "\ndef f(a):\n    yield a\n"),
    ("L7", "\ndef f(a):\n    if (b := a):\n        return b\n"),
    ("L7", "\ndef f(a):\n    return f'{a:>{a}}'\n"),
    ("L7", "\ndef f(a):\n    return 'ab'(a)\n"),
    ("L21", "\ndef f(a: int):\n    return a\n"),
    ("L21", "\ndef f(a) -> int:\n    return a\n"),
    ("L20", "\ndef f(a, b):\n    return a is b\n"),
    ("L4", "\ndef f(*a):\n    return a\n"),
    ("L4", "\ndef f(a=[]):\n    return a\n"),
    ("L4", "\nclass Other:\n    @property\n    def many(self):\n        return 1\n"),
    ("L13", "\ndef f():\n    return [lambda x: x, lambda x: 1]\n"),
    ("L5", "\nclass Other(Box, Bad):\n    pass\n"),
    ("L5", "\nclass Other:\n    ROWS = 1\n"),
    ("L18", "\nclass Other(dict):\n    pass\n"),
    ("L18", "\nclass Other:\n    def __hash__(self):\n        return 1\n"),
    ("L18", "\nclass Other:\n    def rows(self):\n        return 1\n"),
    ("L18", "\ndef f():\n    return [Box]\n"),
    ("L18", "\ndef f(box):\n    return box.columns\n"),
    ("L28", "\nclass Other:\n    def __init__(self):\n        return None\n"),
    ("L28", "\nclass Other:\n    def __len__(self):\n        if self:\n            return 1\n"),
    ("L8", "\ndef f(a):\n    return hash(a)\n"),
    ("L8", "\ndef f(a):\n    return set(a)\n"),
    ("L8", "\ndef f(a):\n    print(a)\n"),
    ("L8", "\ndef f(a):\n    return chr(a)\n"),
    ("L8", "\ndef f(a):\n    return isinstance(a, float)\n"),
    ("L8", "\ndef f(a):\n    return [ValueError, a]\n"),
    ("L22", "\ndef f(a):\n    return [len, a]\n"),
    ("L22", "\ndef f(a):\n    return int('5', base=a)\n"),
    ("L25", "\ndef f(a):\n    return a.encode()\n"),
    ("L25", "\ndef f(a):\n    a.sort()\n"),
    ("L25", "\ndef f(a):\n    return a.split(sep=' ')\n"),
    ("L26", "\ndef f(box):\n    box.items = 1\n"),
    ("L23", "\ndef f(a):\n    rows = zip(a, a)\n    return rows\n"),
    ("L23", "\ndef f(a):\n    return a.items()\n"),
    ("L23", "\ndef f(a):\n    for x in a:\n        a.append(x)\n"),
    ("L23", "\ndef f(a):\n    for x in enumerate(a):\n        del a[x]\n"),
    ("L23", "\ndef f(a):\n    for x in a.rows:\n        a.rows[0] = x\n"),
    ("L19", "\ndef f(a):\n    raise Bad\n"),
    ("L19", "\ndef f(a):\n    raise told(a)\n"),
    ("L19", "\ndef f(a):\n    try:\n        return int(a)\n    except ValueError:\n        return 1\n"),
    ("L19", "\ndef f(a):\n    try:\n        return int(a)\n    except Exception:\n        return 1\n"),
    ("L19", "\ndef f(a):\n    try:\n        return int(a)\n    except:\n        return 1\n"),
)


class Package(unittest.TestCase):
    def test_all_files_keep_the_rules(self):
        self.assertEqual(faults(texts()), [])

    def test_the_folder_holds_only_files_of_python(self):
        held = [path.name for path in FOLDER.iterdir() if path.name != "__pycache__"]
        self.assertEqual(sorted(held), sorted(texts()))
        self.assertIn("__init__.py", held)
        self.assertLessEqual(len(held), 100)

    def test_python_gives_no_warning(self):
        with warnings.catch_warnings():
            warnings.simplefilter("error")
            for name, text in texts().items():
                compile(text, name, "exec")

    def test_no_function_calls_itself_round_about(self):
        # Recursion may not be deep; the package does without it.
        calls = {}
        for text in texts().values():
            for node in ast.parse(text).body:
                if isinstance(node, ast.FunctionDef):
                    called = [part.func for part in ast.walk(node) if isinstance(part, ast.Call)]
                    calls[node.name] = {func.id for func in called if isinstance(func, ast.Name)}
        for name in calls:
            found, ahead = set(), [name]
            while ahead:
                wider = calls.get(ahead.pop(), set()) - found
                found |= wider
                ahead.extend(wider)
            self.assertNotIn(name, found)

    def test_the_package_is_the_one_of_this_checkout(self):
        self.assertEqual(FOLDER, Path(__file__).resolve().parent.parent / "afloatintime")
        self.assertGreaterEqual(sys.version_info[:2], (3, 11))


class Rules(unittest.TestCase):
    def test_a_good_file_has_no_fault(self):
        self.assertEqual(faults({**BASE, "good.py": GOOD}), [])

    def test_breaches_are_seen(self):
        for rule, behind, *whole in BREACHES:
            text = whole[0] if whole else GOOD + behind
            found = faults({**BASE, "good.py": text})
            self.assertIn(rule, [fault[0] for fault in found], text[-200:])

    def test_names_of_files(self):
        for name in ("Box.py", "test_box.py", "len.py", "law.py", "my-box.py", "tests.py"):
            self.assertIn("L14", [fault[0] for fault in faults({**BASE, name: GOOD})], name)

    def test_files_that_import_from_each_other(self):
        round_about = {
            "one.py": "from afloatintime.two import f\n",
            "two.py": "from afloatintime.three import g\n\n\ndef f():\n    return g()\n",
            "three.py": "from afloatintime.two import f\n\n\ndef g():\n    return f()\n",
        }
        found = [(rule, name) for rule, name, _, what in faults(round_about)]
        self.assertEqual(found, [("L16", "three.py"), ("L16", "two.py")])


if __name__ == "__main__":
    unittest.main()
