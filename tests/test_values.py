"""Values and lots as bits ([0.4], [S4.3])."""

import random
import unittest

from support import LoomTest

from bitloom.values import bit_lot, bits_of, value_lot, value_of


class ValuesTest(LoomTest):
    def test_bits_of(self):
        self.assertEqual(bits_of(4, 5), (1, 0, 1, 0))
        self.assertEqual(bits_of(1, 0), (0,))
        self.assertEqual(bits_of(64, 2**64 - 1), (1,) * 64)
        self.assertEqual(bits_of(64, 2**63), (0,) * 63 + (1,))

    def test_value_of(self):
        self.assertEqual(value_of((1, 0, 1, 0)), 5)
        self.assertEqual(value_of((0,) * 63 + (1,)), 2**63)
        self.assertEqual(value_of(()), 0)

    def test_lots(self):
        self.assertEqual(bit_lot([2, 3], (1, 6)), (1, 0, 0, 1, 1))
        self.assertEqual(bit_lot((2, 3), (1, 6)), (1, 0, 0, 1, 1))
        self.assertEqual(value_lot([2, 3], (1, 0, 0, 1, 1)), (1, 6))
        self.assertEqual(value_lot((2, 3), (1, 0, 0, 1, 1)), (1, 6))
        self.assertEqual((bit_lot([], ()), value_lot([], ())), ((), ()))

    def test_there_and_back(self):
        dice = random.Random(1)
        for _ in range(100):
            widths = [dice.choice([1, 2, 7, 64]) for _ in range(dice.randint(0, 5))]
            values = tuple(dice.randrange(2**width) for width in widths)
            bits = self.is_new(bit_lot, widths, values)
            self.assertIs(type(bits), tuple)
            self.assertEqual(len(bits), sum(widths))
            self.assertEqual(value_lot(widths, bits), values)
            for width, value in zip(widths, values):
                self.assertEqual(value_of(bits_of(width, value)), value)
                self.assertEqual(bits_of(width, value), tuple(value // 2**b % 2 for b in range(width)))


if __name__ == "__main__":
    unittest.main()
