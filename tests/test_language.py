"""That the files keep the rules of the language, and that the checks of these rules find what breaks them."""

import pathlib
import unittest

from tests.rules import PACKAGE, broken

TOP = pathlib.Path(__file__).resolve().parent.parent

CLASS = "class Box:\n    def __init__(self, n):\n        self.n = n\n"
EQUAL = CLASS + "    def __eq__(self, other):\n        return isinstance(other, Box) and self.n == other.n\n\n"

MANY = "def each(xs):\n    for x in xs:\n        yield x\n\n\n"
SHELF = "class Shelf:\n    def __init__(self):\n        self.rows = []\n\n"
MADE = CLASS + "\n    @classmethod\n    def made(cls, n):\n"
TABLE = "def f(x):\n    return x\n\n\nTABLE = {'f': f}\n\n\n"

BAD = (
    ("L2", "import math\n"),
    ("L2", "from os import path\n"),
    ("L2", "from math import sqrt\n"),
    ("L2", "from math import isqrt as root\n"),
    ("L2", "from .other import half\n"),
    ("L2", "def f():\n    from sureplace.other import half\n    return half(1)\n"),
    ("L2", "X = 1\nfrom sureplace.other import half\n"),
    ("L3", "print(1)\n"),
    ("L3", "if True:\n    X = 1\n"),
    ("L3", "X = len('a')\n"),
    ("L3", "X, Y = 1, 2\n"),
    ("L3", "for x in (1, 2):\n    pass\n"),
    ("L4", "def f(x, rows=[]):\n    return x\n"),
    ("L4", "def g(f):\n    return f\n\n\n@g\ndef f(x):\n    return x\n"),
    ("L5", CLASS + "    def __hash__(self):\n        return 1\n"),
    ("L5", "class Box(list[int]):\n    pass\n"),
    ("L6", "def f():\n    global x\n    x = 1\n"),
    ("L6", "async def f():\n    return 1\n"),
    ("L6", "def f(x):\n    x == 1\n"),
    ("L7", "X = 1.5\n"),
    ("L7", "def f(x):\n    return x / 2\n"),
    ("L7", EQUAL + "def f(xs):\n    return any(x for x in xs)\n"),
    ("L8", "def f(x):\n    return round(x)\n"),
    ("L8", "def f(x):\n    print(x)\n"),
    ("L8", "def f(x):\n    return open(x)\n"),
    ("L8", "def f(x):\n    return x.__dict__\n"),
    ("L10", "X = 1\n" * 1 + "\n".join(f"X{k} = 1" for k in range(400)) + "\n"),
    ("L10", "def f(x):\n" + "    x = 1\n" * 40),
    ("L10", "X = " + "1" * 117 + "\n"),
    ("L10", "def f(x):\n\treturn x\n"),
    ("L12", "def __f(x):\n    return x\n"),
    ("L12", "def f(_):\n    return _\n"),
    ("L12", "class _Box:\n    pass\n"),
    ("L12", "# _wall\n"),
    ("L13", "def f(x):\n    s = {1, 2, 3}\n    return x in s\n"),
    ("L14", "X = '\u00e9'\n"),
    ("L15", "X = 1\nX = 2\n"),
    ("L15", "def f(next):\n    return next\n"),
    ("L15", "def f(x):\n    min = x\n    return min\n"),
    ("L15", "from sureplace.other import half\n\n\ndef f(half):\n    return half\n"),
    ("L15", "X = ([1], 2)\n"),
    ("L15", "def f(x):\n    class Box:\n        pass\n    return Box()\n"),
    ("L16", "from sureplace.other import nothing\n"),
    ("L17", "def f(register):\n    return register\n"),
    ("L17", "X = 'type'\n"),
    ("L17", "def dataclass_of(x):\n    return x\n"),
    ("L18", CLASS + "    def f(self):\n        return 1\n    def f(self):\n        return 2\n"),
    ("L18", CLASS + "    def n(self):\n        return 1\n"),
    ("L18", CLASS + "\n\ndef f():\n    Box.n = 1\n"),
    ("L19", "def f(x):\n    try:\n        return x[0]\n    except Exception:\n        return 1\n"),
    ("L19", "def f(x):\n    try:\n        return x[0]\n    except:\n        return 1\n"),
    ("L19", "def f(x):\n    raise x\n"),
    ("L20", "def f(x, y):\n    return x is y\n"),
    ("L21", "def f(x: int):\n    return x\n"),
    ("L22", "def f(x):\n    return int(x, base=2)\n"),
    ("L23", "def f(xs):\n    return zip(xs, xs)\n"),
    ("L23", "def f(xs):\n    for x in xs:\n        xs.append(x)\n"),
    ("L24", "def f(xs):\n    return {x for x in xs}\n"),
    ("L25", "def f(x):\n    return x.encode()\n"),
    ("L25", "def f(xs):\n    return sorted(xs, key=xs.index)\n"),
    ("L26", "class Box:\n    def __init__(self, n):\n        self.items = n\n"),
    ("L27", "def f(x, y):\n    return x ** y\n"),
    ("L27", "X = '100%'\n"),
    ("L27", "X = 'a\\x41'\n"),
    ("L28", "class Box:\n    def __init__(self, n):\n        self.n = n\n        return None\n"),
    ("L23", MANY + "def f(xs):\n    return each(xs)\n"),
    ("L23", MANY + "def f(xs):\n    return 1 in each(xs)\n"),
    ("L23", MANY + "def f(xs):\n    return len(each(xs))\n"),
    ("L23", MANY + "def f(xs):\n    return [each, xs]\n"),
    ("L23", MANY + "class Box:\n    def each(self):\n        return 1\n"),
    ("L23", MANY + "class Box:\n    def __init__(self, n):\n        self.each = n\n"),
    ("L23", "def f(xs):\n    yield 1\n    return xs\n"),
    ("L23", "def f(xs):\n    x = yield 1\n"),
    ("L23", "def items(xs):\n    yield xs\n"),
    ("L23", "def f(xs):\n    try:\n        yield xs[1]\n    except KeyError:\n        pass\n"),
    ("L5", SHELF + "    def __iter__(self):\n        for row in self.rows:\n            if row:\n                yield row\n"),
    ("L5", SHELF + "    def __iter__(self):\n        rows = self.rows\n        return iter(rows)\n"),
    ("L5", SHELF + "    @property\n    def many(self):\n        self.rows = []\n        return 1\n"),
    ("L5", SHELF + "    @property\n    def many(self):\n        return self.rows.pop()\n"),
    ("L5", SHELF + "    @property\n    def title(self):\n        return 1\n"),
    ("L18", "def f(x):\n    return x.nothing\n"),
    ("L24", "def f(xs):\n    return set(xs)\n"),
    ("L24", "def f(xs):\n    for x in set(xs):\n        return x\n"),
    ("L5", MADE + "        return [cls(m) for m in n]\n"),
    ("L5", MADE + "        return [cls, n]\n"),
    ("L5", MADE + "        yield n\n"),
    ("L5", MADE + "        return cls(n)\n\n\ndef made(n):\n    return n\n"),
    ("L7", "def f(g, xs):\n    return g(*xs[1:])\n"),
    ("L7", "def f(xs):\n    return sum(*xs)\n"),
    ("L13", "def f(g):\n    return g(lambda x: x, lambda x: -x)\n"),
    ("L3", TABLE + "def g(x):\n    return TABLE['f'](x)\n"),
    ("L15", TABLE + "def g(x):\n    TABLE[x] = 1\n"),
    ("L15", TABLE + "def g(x):\n    return [TABLE, x]\n"),
    ("L15", TABLE + "def g(x):\n    TABLE.update(x)\n"),
)

GOOD = (
    "from sureplace.other import half\n\nLIMIT = 10 ** 12\n\n\ndef f(x, *, y=(), z=LIMIT):\n"
    "    return [half(n) for n, m in zip(x, y) if n is not None and m < z]\n",
    EQUAL + "\ndef f(xs):\n    return any([x < 2 for x in xs])\n",
    MANY + "def f(xs):\n    for x in each(xs):\n        return [y for y in each(xs)] + list(each(xs))\n",
    SHELF + "    def __iter__(self):\n        return iter(self.rows)\n\n    @property\n    def many(self):\n"
    "        return len(set(self.rows))\n",
    MADE + "        box = cls(n)\n        box.n = n\n        return box\n",
    TABLE + "def g(word, xs):\n    first, *rest = xs\n    action = TABLE[word]\n    return action(*rest), sorted(TABLE)\n",
)


def package_of(text):
    """The texts of a small package with this file."""
    return {
        "sureplace/__init__.py": "",
        "sureplace/other.py": "def half(x):\n    return x // 2\n",
        "sureplace/sample.py": text,
    }


class Language(unittest.TestCase):
    def test_the_package_keeps_the_rules(self):
        texts = {}
        for path in sorted((TOP / PACKAGE).rglob("*")):
            if path.is_file() and "__pycache__" not in path.parts:
                texts[path.relative_to(TOP).as_posix()] = path.read_text(encoding="utf-8")
        self.assertIn("sureplace/judge/trees.py", texts)
        self.assertEqual(broken(texts), [])

    def test_what_breaks_a_rule_is_found(self):
        for rule, text in BAD:
            found = [line.split()[0] for line in broken(package_of(text))]
            due = {rule, "L16"} if text == "import math\n" else {rule}
            self.assertTrue(due & set(found), (rule, text, found))

    def test_what_breaks_no_rule_is_not_found(self):
        for text in GOOD:
            self.assertEqual(broken(package_of(text)), [], text)

    def test_names_of_files(self):
        for name, rule in (("sureplace/Sample.py", "L1"), ("sureplace/notes.txt", "L1"), ("sureplace/len.py", "L14"),
                           ("sureplace/tests/__init__.py", "L14"), ("sureplace/deep/one.py", "L14"),
                           ("sureplace/test_one.py", "L14"), ("sureplace/math.py", "L14")):
            found = [line.split()[0] for line in broken({**package_of(""), name: ""})]
            self.assertIn(rule, found, name)
        beside = {**package_of(""), "sureplace/one.py": "", "sureplace/one/__init__.py": ""}
        self.assertIn("L14", [line.split()[0] for line in broken(beside)])
        many = {**package_of(""), **{f"sureplace/file{k}.py": "" for k in range(100)}}
        self.assertIn("L14", [line.split()[0] for line in broken(many)])

    def test_files_that_import_each_other(self):
        texts = package_of("from sureplace.third import third\n\n\ndef half(x):\n    return third(x)\n")
        texts["sureplace/third.py"] = "from sureplace.sample import half\n\n\ndef third(x):\n    return half(x)\n"
        self.assertIn("L16", [line.split()[0] for line in broken(texts)])


if __name__ == "__main__":
    unittest.main()
