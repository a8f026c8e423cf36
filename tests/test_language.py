import pathlib
import re
import unittest

from language import PACKAGE, draw_faults, faults, member_faults, methods_of

FOLDER = pathlib.Path(__file__).resolve().parent.parent / PACKAGE

# Each of these leaves the language in one way.
OUTSIDE = (
    "import random\n",
    "import time as clock\n",
    "from random import randint\n",
    "from .spans import beside\n",
    "from holmway.spans import *\n",
    "from holmway import spans\n",
    "def read(name):\n    return open(name)\n",
    "def take(*rest):\n    return rest\n",
    "def half(x):\n    return x / 2\n",
    "def half(x):\n    return x * 0.5\n",
    "def each(xs):\n    for x in xs:\n        yield x\n",
    "def each(xs):\n    return {x: True for x in xs}\n",
    "def each(xs):\n    return sum(x for x in xs)\n",
    "def kept(xs):\n    seen = set(xs)\n    return seen\n",
    "def told(xs):\n    'what it does'\n    return xs\n",
    "def turned(xs):\n    xs.sort()\n    return xs\n",
    "def same(x, y):\n    return x is y\n",
    "def two(x):\n    y = z = x\n    return y + z\n",
    "def hidden(_x):\n    return _x\n",
    "def named(list):\n    return list\n",
    "def kind(x):\n    return x  # its type\n",
    "def gone(xs):\n    del xs[0]\n",
    "def sure(x):\n    assert x\n",
    "def held(f):\n    try:\n        f()\n    except Exception:\n        pass\n",
    "def held(xs, k):\n    try:\n        return xs[k]\n    except ValueError:\n        return None\n",
    "def gone(e):\n    raise e\n",
    "def grow(xs):\n    for x in xs:\n        xs.append(x)\n",
    "def grow(xs):\n    for x in xs:\n        xs[x] = 0\n",
    "def kept(xs):\n    pairs = enumerate(xs)\n    return list(pairs)\n",
    "def kept(d):\n    return d.items()\n",
    "from holmway.spans import beside\ndef near(beside):\n    return beside\n",
    "class Held:\n    pass\ndef near(Held):\n    return Held\n",
    "class Held:\n    count = 0\n",
    "class Held(list, dict):\n    pass\n",
    "name = 'f\u00e4hre'\n",
    "name = '%d'\n",
    "def long():\n" + "    pass\n" * 40,
    "name = 0\n" * 401,
    "name = '" + "x" * 120 + "'\n",
)

INSIDE = """\"\"\"A text at the top.\"\"\"

from holmway.spans import beside


class Shore:
    def __init__(self, places):
        self.places = list(places)

    def reach(self, place, bridges):
        if len(set(bridges)) == 0 or place is None:
            return []
        return [near for near in beside(place, bridges) if near in self.places]
"""


# Each of these packages leaves the language in what its files have with one another.
MEMBERS_OUTSIDE = (
    {"a.py": "class A:\n    def reach(self):\n        pass\n", "b.py": "def give(b):\n    b.reach = 0\n"},
    {"a.py": "class A:\n    def __init__(self):\n        self.items = []\n"},
    {"a.py": "class A:\n    def sort(self):\n        pass\n"},
)
DRAWS_OUTSIDE = (
    {"a.py": "from holmway.b import f\n", "b.py": "from holmway.c import f\n", "c.py": "def f():\n    pass\n"},
    {
        "a.py": "from holmway.b import f\ndef g():\n    pass\n",
        "b.py": "from holmway.c import h\ndef f():\n    pass\n",
        "c.py": "from holmway.a import g\ndef h():\n    pass\n",
    },
)


class LanguageTest(unittest.TestCase):
    def test_every_file_of_the_package_keeps_to_the_language(self):
        texts = {path.name: path.read_text(encoding="utf-8") for path in FOLDER.glob("*.py")}
        own_methods = [name for text in texts.values() for name in methods_of(text)]
        for name, text in texts.items():
            self.assertEqual(faults(text, own_methods), [], name)
        self.assertEqual(list(member_faults(texts)), [])
        self.assertEqual(list(draw_faults(texts)), [])

    def test_the_folder_holds_plain_source_files_alone(self):
        names = [path.name for path in FOLDER.iterdir() if path.name != "__pycache__"]
        self.assertIn("__init__.py", names)
        for name in names:
            self.assertTrue(re.fullmatch(r"[a-z][a-z0-9_]*\.py|__init__\.py", name), name)
            self.assertFalse(name.startswith(("test", "site", "conftest")), name)

    def test_code_outside_the_language_is_seen(self):
        for text in OUTSIDE:
            self.assertNotEqual(faults(text), [], text)

    def test_files_that_do_not_go_together_are_seen(self):
        for texts in MEMBERS_OUTSIDE:
            self.assertNotEqual(list(member_faults(texts)), [], texts)
        for texts in DRAWS_OUTSIDE:
            self.assertNotEqual(list(draw_faults(texts)), [], texts)

    def test_code_inside_the_language_is_left_alone(self):
        self.assertEqual(faults(INSIDE, methods_of(INSIDE)), [])


if __name__ == "__main__":
    unittest.main()
