"""The files of the package keep to the subset of the language."""

import pathlib
import tempfile
import unittest

from language import finds

PACKAGE = pathlib.Path(__file__).resolve().parent.parent / "bitloom"

BARRED = [
    ("L6", "import os\n"),
    ("L3", "K, M = 0, 1\n"),
    ("L3", "K = {1: []}\n"),
    ("L3", "K = len('a')\n"),
    ("L6", "def f():\n    global k\n"),
    ("L7", "def f(a):\n    return a / 2\n"),
    ("L7", "def f(a):\n    return {a}\n"),
    ("L8", "def f(a):\n    return hash(a)\n"),
    ("L10", "def f():\n" + "    pass\n" * 40),
    ("L15", "def f(sum):\n    return sum\n"),
    ("L17", "def f():\n    return 'an enum'\n"),
    ("L19", "def f():\n    try:\n        pass\n    except ValueError:\n        pass\n"),
    ("L22", "def f(a):\n    return a\n\n\ndef g():\n    return f()\n"),
    ("L23", "def f(a):\n    return g(range(a))\n\n\ndef g(a):\n    return a\n"),
    ("L23", "def f(a):\n    for k in a:\n        a.append(k)\n"),
    ("L25", "def f(a):\n    return a.sort()\n"),
    ("L27", "def f(a):\n    return 2 ** a\n"),
    ("L27", "def f(a):\n    return '%' + a\n"),
]


class LanguageTest(unittest.TestCase):
    def test_the_package_keeps_to_it(self):
        self.assertEqual(finds(PACKAGE), [])

    def test_the_folder_has_nothing_else(self):
        names = [path.name for path in PACKAGE.iterdir() if path.name != "__pycache__"]
        self.assertTrue(all(name.endswith(".py") and name == name.lower() for name in names))
        self.assertIn("__init__.py", names)
        self.assertLessEqual(len(names), 100)

    def test_what_is_barred_is_found(self):
        for rule, text in BARRED:
            with self.subTest(text=text), tempfile.TemporaryDirectory() as folder:
                path = pathlib.Path(folder) / "loom"
                path.mkdir()
                (path / "part.py").write_text(text, encoding="utf-8")
                self.assertTrue(any(found.startswith(rule) or rule in found for _, _, found in finds(path)))


if __name__ == "__main__":
    unittest.main()
