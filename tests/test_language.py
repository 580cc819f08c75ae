import pathlib
import unittest

from language import package_faults

PACKAGE = pathlib.Path(__file__).resolve().parent.parent / "quiltyard"

OUTSIDE = [
    "import sys\n",
    "from os import path\n",
    "from . import errors\n",
    "print(1)\n",
    "A = 1\nA = 2\n",
    "A = 1 + 1\n",
    "from quiltyard.other import B\n\nA = (B, B)\n",
    "A = [f]\n\n\ndef f(x):\n    return x\n",
    "def f(*xs):\n    return xs\n",
    "def f(x: int):\n    return x\n",
    "def f(x):\n    return x / 2\n",
    "def f(x):\n    return x * 1.5\n",
    "def f(x):\n    return {y for y in x}\n",
    "def f(x):\n    return all(y for y in x)\n",
    "def f(x):\n    return [y for z in x for y in z]\n",
    "def f(x):\n    a = b = x\n    return a + b\n",
    "def f(x):\n    return open(x)\n",
    "def f(x):\n    return x.sort()\n",
    "def f(x):\n    return x is f\n",
    "def f(x):\n    return f'{x + 1}'\n",
    "def f(list):\n    return list\n",
    "def f(under_x):\n    _y = under_x\n    return _y\n",
    "def f(x):\n    assert x\n",
    "def f(x):\n    for y in x:\n        pass\n    else:\n        return x\n",
    "class C:\n    value = 1\n",
    "A = '%'\n",
    "# which type\n",
    "# \u00e4\n",
    "A = 1" + " " * 120 + "\n",
    "def f(x):\n" + "    x = x + 1\n" * 40,
    "A = 1\n" + "\n" * 400,
    "def f(x):\n    return x.y\n",
    "def f(x):\n    'a text'\n    return x\n",
    "class C:\n    'a text'\n",
    "def f(x):\n    y = range(x)\n    return list(y)\n",
    "def f(x):\n    return x.items()\n",
    "def f(x):\n    return [y for y in reversed(range(x))]\n",
    "def f(x):\n    g = len\n    return g(x)\n",
    "def f(x):\n    return list(zip(x, x, key=1))\n",
    "class C:\n    def union(self):\n        return 1\n",
    "class C:\n    def __init__(self):\n        self.items = 1\n",
    "class C:\n    def a(self):\n        return 1\n\n\nclass D:\n    def __init__(self):\n        self.a = 1\n",
    "from quiltyard.sample import f\n\n\ndef g(x):\n    return f(x)\n",
]

WITHIN = [
    "A = -1\nB = (1, 'a')\n\n\ndef f(x):\n    return x\n\n\nC = {'f': f, 'g': None}\n",
    "def f(x):\n    return [y for y in range(x)]\n",
    "def f(x):\n    return sorted(x.items(), key=len)\n",
    "def f(x):\n    for k, y in enumerate(zip(x, range(3)), start=1):\n        x = x + [k, y]\n    return x\n",
    "class C:\n    def __init__(self):\n        self.known = {}\n\n    def least(self):\n        return self.known\n",
    "from quiltyard.other import f\n\n\ndef g(x):\n    return f(x)\n",
]


class Language(unittest.TestCase):
    def test_package_keeps_to_the_rules(self):
        files = sorted(PACKAGE.glob("*.py"))
        self.assertIn("errors.py", [file.name for file in files])
        texts = {f"quiltyard.{file.stem}": file.read_text(encoding="utf-8") for file in files}
        self.assertEqual(package_faults(texts, "quiltyard"), [])

    def test_nothing_else_lies_in_the_package(self):
        names = sorted(file.name for file in PACKAGE.iterdir() if file.name != "__pycache__")
        for name in names:
            self.assertRegex(name, r"^[a-z0-9_]+\.py$")
        self.assertIn("__init__.py", names)

    def test_code_outside_the_rules_is_found(self):
        for text in OUTSIDE:
            with self.subTest(text[:60]):
                self.assertNotEqual(package_faults({"quiltyard.sample": text}, "quiltyard"), [])

    def test_files_that_draw_from_one_another_are_found(self):
        texts = {"quiltyard.one": "from quiltyard.other import f\n", "quiltyard.other": "A = 1\n"}
        self.assertEqual(package_faults(texts, "quiltyard"), [])
        texts["quiltyard.other"] = "from quiltyard.third import g\n"
        texts["quiltyard.third"] = "from quiltyard.one import h\n"
        self.assertEqual(len(package_faults(texts, "quiltyard")), 3)

    def test_code_within_the_rules_is_not_found(self):
        for text in WITHIN:
            with self.subTest(text[:60]):
                self.assertEqual(package_faults({"quiltyard.sample": text}, "quiltyard"), [])


if __name__ == "__main__":
    unittest.main()
