"""Numbers reckoned ([S2.1])."""

import random
import unittest

from models import reckon
from samples import random_part
from support import LoomTest

from bitloom.numbers import reckoned
from bitloom.texts import read_number

MOST = 10**9


def told(text, **values):
    return reckoned(read_number(text), values)


class NumbersTest(LoomTest):
    def test_each_word(self):
        self.assertEqual(told("7"), 7)
        self.assertEqual(told("w", w=-3), -3)
        self.assertEqual(told("2 + 3 * 4 - 1"), 13)
        self.assertEqual(told("3 - 5"), -2)
        self.assertEqual([told("1 < 2"), told("2 < 2"), told("3 < 2")], [1, 0, 0])
        self.assertEqual([told("1 == 2"), told("2 == 2")], [0, 1])

    def test_over_goes_down(self):
        self.assertEqual(told("7 / 2"), 3)
        self.assertEqual(told("w / 2", w=-7), -4)
        self.assertEqual(told("7 / w", w=-2), -4)
        self.assertEqual(told("w / v", w=-7, v=-2), 3)
        self.assertEqual(told("0 / 5"), 0)

    def test_bad_ones(self):
        self.assertIsNone(told("w"))
        self.assertIsNone(told("w", v=1))
        self.assertIsNone(told("0 * w"))
        self.assertIsNone(told("1 / 0"))
        self.assertIsNone(told("0 * (1 / (w - w))", w=2))
        self.assertIsNone(told("1 + (0 < 1 / 0)"))

    def test_greatest_and_least(self):
        self.assertEqual(told(str(MOST)), MOST)
        self.assertIsNone(told(str(MOST + 1)))
        self.assertEqual(told(f"0 - {MOST}"), -MOST)
        self.assertIsNone(told(f"0 - {MOST} - 1"))
        self.assertIsNone(told(f"{MOST} + 1 - 1"))
        self.assertIsNone(told(f"0 * ({MOST} * {MOST})"))
        self.assertIsNone(told(str(10**39) + " < 1"))
        self.assertIsNone(told("w", w=MOST + 1))
        self.assertIsNone(told("w - w", w=-MOST - 1))

    def test_the_dict_stays(self):
        values = {"w": 3}
        self.assertEqual(self.is_new(reckoned, ("plus", ("size", "w"), ("size", "w")), values), 6)
        self.assertEqual(values, {"w": 3})

    def test_nested_deep(self):
        left, right = ("number", 1), ("number", 1)
        for _ in range(300):
            left, right = ("plus", left, ("number", 1)), ("minus", ("number", 1), right)
        self.assertEqual(reckoned(left, {}), 301)
        self.assertEqual(reckoned(right, {}), 1)

    def test_by_a_model(self):
        dice = random.Random(9)
        for _ in range(500):
            number = random_part(dice, "number", 5)
            values = {name: dice.randint(-5, 5) for name in ("a", "b", "c", "u", "w", "i", "x_1", "name", "number")}
            self.assertEqual(reckoned(number, values), reckon(number, values))


if __name__ == "__main__":
    unittest.main()
