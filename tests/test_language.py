import pathlib
import unittest

from language import faults_of

PACKAGE = pathlib.Path(__file__).resolve().parent.parent / "quiltyard"
VALUES = {"row"}

OUTSIDE = [
    "import sys\n",
    "from os import path\n",
    "from . import errors\n",
    "print(1)\n",
    "A = 1\nA = 2\n",
    "def f(*xs):\n    return xs\n",
    "def f(x: int):\n    return x\n",
    "def f(x):\n    return x / 2\n",
    "def f(x):\n    return x * 1.5\n",
    "def f(x):\n    return {y for y in x}\n",
    "def f(x):\n    return all(y for y in x)\n",
    "def f(x):\n    return [y for z in x for y in z]\n",
    "def f(x):\n    a = b = x\n    return a + b\n",
    "def f(x):\n    return open(x)\n",
    "def f(x):\n    return x.sort()\n",
    "def f(x):\n    return x is f\n",
    "def f(x):\n    return f'{x + 1}'\n",
    "def f(list):\n    return list\n",
    "def f(under_x):\n    _y = under_x\n    return _y\n",
    "def f(x):\n    assert x\n",
    "def f(x):\n    for y in x:\n        pass\n    else:\n        return x\n",
    "class C:\n    value = 1\n",
    "A = '%'\n",
    "# which type\n",
    "# \u00e4\n",
    "A = 1" + " " * 120 + "\n",
    "def f(x):\n" + "    x = x + 1\n" * 40,
    "A = 1\n" + "\n" * 400,
]


class Language(unittest.TestCase):
    def test_package_keeps_to_the_rules(self):
        files = sorted(PACKAGE.glob("*.py"))
        self.assertIn("errors.py", [file.name for file in files])
        for file in files:
            with self.subTest(file.name):
                self.assertEqual(faults_of(file.read_text(encoding="utf-8"), "quiltyard", VALUES), [])

    def test_nothing_else_lies_in_the_package(self):
        names = sorted(file.name for file in PACKAGE.iterdir() if file.name != "__pycache__")
        for name in names:
            self.assertRegex(name, r"^[a-z0-9_]+\.py$")
        self.assertIn("__init__.py", names)

    def test_code_outside_the_rules_is_found(self):
        for text in OUTSIDE:
            with self.subTest(text[:40]):
                self.assertNotEqual(faults_of(text, "quiltyard", VALUES), [])


if __name__ == "__main__":
    unittest.main()
