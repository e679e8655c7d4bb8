"""The files of the package keep to the subset of the language."""

import pathlib
import tempfile
import unittest

from language import finds

PACKAGE = pathlib.Path(__file__).resolve().parent.parent / "bitloom"

METHOD = "class A:\n    def told(self, a):\n        return a\n\n\n"

ALLOWED = [
    METHOD + "def f(a):\n    return a.told(1)\n",
    METHOD + "def f(a, b):\n    return sorted(a, key=b.told)\n",
    "def f(a):\n    return f'{a:04x} {a} {len(a)}'\n",
    METHOD + "def f(a):\n    return isinstance(a, (A, int)) or isinstance(A(), A)\n",
]

BARRED = [
    ("L6", "import os\n"),
    ("L3", "K, M = 0, 1\n"),
    ("L3", "K = {1: []}\n"),
    ("L3", "K = len('a')\n"),
    ("L6", "def f():\n    global k\n"),
    ("L7", "def f(a):\n    return a / 2\n"),
    ("L7", "def f(a):\n    return {a}\n"),
    ("L8", "def f(a):\n    return hash(a)\n"),
    ("L10", "def f():\n" + "    pass\n" * 40),
    ("L15", "def f(sum):\n    return sum\n"),
    ("L17", "def f():\n    return 'an enum'\n"),
    ("L19", "def f():\n    try:\n        pass\n    except ValueError:\n        pass\n"),
    ("L22", "def f(a):\n    return a\n\n\ndef g():\n    return f()\n"),
    ("L23", "def f(a):\n    return g(range(a))\n\n\ndef g(a):\n    return a\n"),
    ("L23", "def f(a):\n    for k in a:\n        a.append(k)\n"),
    ("L25", "def f(a):\n    return a.sort()\n"),
    ("L25", "def f(a):\n    return g(a.append)\n\n\ndef g(a):\n    return a\n"),
    ("L25", METHOD + "def f(a):\n    return g(a.told)\n\n\ndef g(a):\n    return a\n"),
    ("L25", METHOD + "def f(a):\n    k = A().told\n    return k(a)\n"),
    ("L25", METHOD + "def f(a):\n    return [a.told]\n"),
    ("L25", METHOD + "def f(a, b):\n    return a(key=b)(b.told)\n"),
    ("L25", "def f(a):\n    return sorted(a, key=a.index)\n"),
    ("L27", "def f(a):\n    return 2 ** a\n"),
    ("L18", METHOD + "class B:\n    def __init__(self):\n        self.told = 1\n"),
    ("L27", "def f(a):\n    return '%' + a\n"),
    ("L7", "def f(a):\n    return f'{a!a}'\n"),
    ("L7", "def f(a):\n    return f(*a)\n"),
    ("L7", "def f(a):\n    return [[k for k in a] for k in a]\n"),
    ("L6", METHOD + "def f(a):\n    del a.told\n"),
    ("L18", METHOD + "def f(a):\n    return [A]\n"),
    ("L18", METHOD + "def f(a):\n    k = A\n    return k()\n"),
    ("L22", METHOD + "def f(a):\n    return a.told()\n"),
    ("L22", METHOD.replace("told", "__init__").replace("return a", "pass") + "def f():\n    return A()\n"),
    ("L7", "def f(a):\n    return f'{a:.2f}'\n"),
]


class LanguageTest(unittest.TestCase):
    def test_the_package_keeps_to_it(self):
        self.assertEqual(finds(PACKAGE), [])

    def test_the_folder_has_nothing_else(self):
        names = [path.name for path in PACKAGE.iterdir() if path.name != "__pycache__"]
        self.assertTrue(all(name.endswith(".py") and name == name.lower() for name in names))
        self.assertIn("__init__.py", names)
        self.assertLessEqual(len(names), 100)

    def finds_in(self, text):
        with tempfile.TemporaryDirectory() as folder:
            path = pathlib.Path(folder) / "loom"
            path.mkdir()
            (path / "part.py").write_text(text, encoding="utf-8")
            return finds(path)

    def test_what_is_barred_is_found(self):
        for rule, text in BARRED:
            with self.subTest(text=text):
                self.assertTrue(any(rule in found.split() for _, _, found in self.finds_in(text)))

    def test_names_of_files(self):
        for name in ("len", "Part", "test", "test_a", "law_a", "heapq", "site", "open", "a-b"):
            with tempfile.TemporaryDirectory() as folder:
                path = pathlib.Path(folder) / "loom"
                path.mkdir()
                (path / f"{name}.py").write_text("K = 1\n", encoding="utf-8")
                self.assertEqual({rule for _, _, rule in finds(path)}, {"L14"}, name)

    def test_what_is_allowed_is_not_found(self):
        for text in ALLOWED:
            with self.subTest(text=text):
                self.assertEqual(self.finds_in(text), [])


if __name__ == "__main__":
    unittest.main()
