import os
import unittest

from tests.language import breaches

PACKAGE = os.path.join(os.path.dirname(os.path.dirname(os.path.abspath(__file__))), "onebase")

# Each breaks one rule, in a file that is well otherwise.
BROKEN = {
    "a set": "def f(xs):\n    return {1, 2} == xs\n",
    "a generator": "def f(xs):\n    yield xs\n",
    "a decorator": "class C:\n    @property\n    def f(self):\n        return 1\n",
    "a call at module level": "A = len([1])\n",
    "two targets at module level": "A = B = 1\n",
    "a name bound twice": "A = 1\nA = 2\n",
    "a list in a tuple": "A = (1, [2])\n",
    "a builtin that is not let": "def f(x):\n    return hash(x)\n",
    "a builtin's name": "def f(map):\n    return map\n",
    "a barred name": "def f(x):\n    elements = x\n    return elements\n",
    "a barred word": "def f(x):\n    return x.type\n",
    "a builtin kept": "def f(x):\n    g = len\n    return g(x)\n",
    "a long function": "def f(x):\n" + "    x = x + 1\n" * 40,
    "a long file": "\n" * 400,
    "a long line": "# " + "x" * 119 + "\n",
    "a tab": "def f(x):\n\treturn x\n",
    "an import from outside": "import os\n",
    "a star import": "from onebase.kinds import *\n",
    "a name that is not there": "from onebase.kinds import nothing\n",
    "an import by the way": "from onebase.more import is_cell\n\n\nA = is_cell\n",
    "a percent sign": "def f(x):\n    return \"%d\" + x\n",
    "is beside a number": "def f(x):\n    return x is 0\n",
    "a float": "A = 1.5\n",
    "division": "def f(x):\n    return x / 2\n",
    "a kept zip": "def f(x):\n    y = zip(x, x)\n    return y\n",
    "a kept generator expression": "def f(x):\n    y = (z for z in x)\n    return y\n",
    "a changing loop": "def f(xs):\n    for x in xs:\n        xs.append(x)\n",
    "a changing loop over enumerate": "def f(xs):\n    for k, x in enumerate(xs):\n        xs[k] = x\n",
    "a table passed on": "A = {1: 2}\n\n\ndef f(g):\n    return g(A)\n",
    "a table changed": "A = {1: 2}\n\n\ndef f(g):\n    A[1] = g\n",
    "a method passed on": "class C:\n    def f(self):\n        return self.f\n",
    "an unknown method": "def f(x):\n    return x.encode()\n",
    "an attribute through an item": "def f(x):\n    x[0].low = 1\n",
    "a raise of a value": "def f(x):\n    raise x\n",
    "a wide handler": "def f(x):\n    try:\n        return x[0]\n    except Exception:\n        return 0\n",
    "an operator": "class C:\n    def __add__(self, other):\n        return other\n",
    "a class kept": "class C:\n    pass\n\n\ndef f():\n    return [C]\n",
    "a keyword of a builtin": "def f(x):\n    return int(x, base=2)\n",
    "a name read that is none": "def f(x):\n    for _ in x:\n        return _\n",
}


def package():
    files = {}
    for name in sorted(os.listdir(PACKAGE)):
        if name.endswith(".py"):
            with open(os.path.join(PACKAGE, name)) as f:
                files[name[:-3]] = f.read()
    return files


class LanguageTest(unittest.TestCase):
    def test_package(self):
        self.assertEqual(breaches(package()), [])

    def test_reader_finds_breaches(self):
        for what, text in BROKEN.items():
            with self.subTest(what):
                files = {"kinds": package()["kinds"], "more": text}
                self.assertNotEqual(breaches(files), [])
        self.assertEqual(breaches({"kinds": package()["kinds"]}), [])

    def test_folder_holds_files_alone(self):
        for name in os.listdir(PACKAGE):
            self.assertTrue(name == "__pycache__" or name.endswith(".py"), name)
            self.assertEqual(name, name.lower())


if __name__ == "__main__":
    unittest.main()
