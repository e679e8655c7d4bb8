"""Names and values ([0.3], [0.4])."""

import unittest

from models import KEYWORDS
from support import LOOSE, deep

from bitloom.names import is_name, is_value


class NamesTest(unittest.TestCase):
    def test_names(self):
        for name in ("a", "z", "a_", "a0", "abcdefghijklmnop", "inn", "x__9", "number", "each", "designs"):
            self.assertIs(is_name(name), True, name)

    def test_no_names(self):
        for name in ("", "_a", "0a", "A", "aB", "abcdefghijklmnopq", "a b", "a-b", "a.b", "a\n", "\ta", "~"):
            self.assertIs(is_name(name), False, name)
        self.assertEqual([word for word in KEYWORDS if is_name(word)], [])
        self.assertEqual(len(KEYWORDS), 14)

    def test_anything(self):
        for value in LOOSE:
            self.assertIs(is_name(value), value == "a")
        self.assertIs(is_name(deep("a", 60)), False)

    def test_values(self):
        for width in (1, 2, 8, 63, 64, 65, 1000):
            self.assertIs(is_value(0, width), True)
            self.assertIs(is_value(2**width - 1, width), True)
            self.assertIs(is_value(2**width, width), False)
            self.assertIs(is_value(-1, width), False)

    def test_widths_beyond_all_memory(self):
        self.assertIs(is_value(10**39, 10**39), True)
        self.assertIs(is_value(-1, 10**39), False)

    def test_no_values(self):
        for value in (True, False, None, "1", (1,), [1], {}, {1: 1}, deep(1, 60)):
            self.assertIs(is_value(value, 1), False)


if __name__ == "__main__":
    unittest.main()
