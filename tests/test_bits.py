"""Bits of configs, and texts of bits ([S8.5], [S8.6])."""

import random
import unittest

from layermodels import CONFIG_C, model_bits, model_bits_fault, model_config_fault, random_config
from support import LoomTest
from test_configs import random_small_fabric

from bitloom.bits import bits_config, bits_text, check_of, config_bits, read_bits
from bitloom.configs import empty_config
from bitloom.errors import BadBits, BadText

HEX = "0123456789abcdef"
HEAD_C = (1, 0, 0, 0, 0, 0, 0, 0, 0, 0, 0, 0, 0, 0, 0, 0, 0, 0, 0, 0, 0, 1, 0, 0, 0, 0, 0, 0, 0, 1, 0, 0, 0, 0, 0, 0, 0, 0, 0, 1, 1)


def plain_check(digits):
    """The check of some digits."""
    return 1 + sum((i + 1) * int(digit, 16) for i, digit in enumerate(digits))


def plain_row(number, middle):
    """A row of a text."""
    return f"{number:04x} {middle} {plain_check(f'{number:04x}{middle}'):04x}\n"


def plain_text(bits):
    """The text of bits by S8.6."""
    found = plain_row(0, f"{len(bits):08x}")
    for number, place in enumerate(range(0, len(bits), 128), start=1):
        signs = "".join(map(str, bits[place:place + 128]))
        signs += "0" * (-len(signs) % 4)
        found += plain_row(number, "".join(f"{int(signs[k:k + 4], 2):x}" for k in range(0, len(signs), 4)))
    return found


def row_form(row):
    """The first place of a row that is not of the form, or None."""
    stage, digits = 0, 0
    for place, sign in enumerate(row):
        is_digit = sign in HEX
        if stage in (0, 2) and is_digit and digits < 4:
            digits += 1
        elif stage == 1 and is_digit and digits < 32:
            digits += 1
        elif sign == " " and (stage == 0 and digits == 4 or stage == 1 and digits > 0):
            stage, digits = stage + 1, 0
        else:
            return place
    return None if stage == 2 and digits == 4 else len(row)


def text_fault(text):
    """The first wrong place of a text, or None."""
    rows = text.split("\n")
    many = None
    for n, row in enumerate(rows[:-1] + [row for row in rows[-1:] if row]):
        place = row_form(row)
        if place is not None or n == len(rows) - 1:
            return n, len(row) if place is None else place
        number, middle, check = row.split(" ")
        if int(number, 16) != n or n > 0 and (n - 1) * 128 >= many:
            return n, 0
        if n == 0:
            many = int(middle, 16)
            if len(middle) != 8 or many > 65535 * 128:
                return n, 5
        else:
            length = min(128, many - 128 * (n - 1))
            signs = f"{int(middle, 16):0{4 * len(middle)}b}"
            if len(middle) != (length + 3) // 4 or "1" in signs[length:]:
                return n, 5
        if int(check, 16) != plain_check(number + middle):
            return n, 6 + len(middle)
    told = len(rows) - 1
    return (told, 0) if many is None or (told - 1) * 128 < many else None


class BitsTest(LoomTest):
    def test_example(self):
        bits = config_bits(CONFIG_C)
        self.assertEqual(bits[:len(HEAD_C)], HEAD_C)
        self.assertEqual(bits, model_bits(CONFIG_C))
        self.assertEqual(bits_config(bits), CONFIG_C)
        # The truth of the first tile, its used and start, and its two inputs of a menu of four.
        self.assertEqual(bits[41:51], (0, 1, 0, 1, 0, 0, 1, 1, 0, 0))

    def test_small_ones(self):
        # One in pad of one, so that its number needs no bits.
        config = ((1, 1, 1, 2, 1), ((0, 0, 0),), ((0, 0, 0),), ((0, 0, 0, (None, ("pad", 0)), ((),) * 4, (("cell",),)),))
        bits = config_bits(config)
        self.assertEqual(len(bits), 38 + 6 + 4 + 1)
        self.assertEqual(bits_config(bits), config)
        for place in range(len(bits)):
            self.fails(BadBits, {"place": place}, bits_config, bits[:place])
        self.fails(BadBits, {"place": len(bits)}, bits_config, (*bits, 0))
        self.fails(BadBits, {"place": len(bits)}, bits_config, (*bits, *bits))

    def test_wrong_numbers(self):
        def changed(place, told):
            bits = list(config_bits(CONFIG_C))
            bits[place:place + len(told)] = told
            return tuple(bits)
        for place, told in [
            (8, (0, 0, 1, 1, 1, 1)), (8, (1,) * 6), (14, (1, 0, 1)), (14, (0, 1, 1)), (20, (1, 1)), (29, (1, 1)), (20, (0, 0, 1)),
            (39, (0, 0)), (38, (1, 1)),
        ]:
            bits = changed(place, told)
            wrong = 39 if place == 38 else place
            self.fails(BadBits, {"place": wrong}, bits_config, bits)
            self.assertEqual(model_bits_fault(bits), wrong)
        # Beyond the menu of the out pad of the first tile, which has three.
        self.fails(BadBits, {"place": 53}, bits_config, changed(53, (1, 1)))

    def test_by_chance(self):
        dice = random.Random(1)
        faults = set()
        for _ in range(300):
            config = random_config(dice, random_small_fabric(dice))
            bits = config_bits(config)
            self.assertEqual(bits, model_bits(config))
            self.assertEqual(bits_config(bits), config)
            self.assertEqual(config_bits(bits_config(bits)), bits)
            for _ in range(8):
                wrong = list(bits)
                for _ in range(dice.choice([0, 1, 1, 2, 4])):
                    wrong[dice.randrange(dice.choice([20, 50, len(bits)]))] ^= 1
                wrong = tuple(wrong[:dice.choice([len(bits), dice.randrange(len(bits))])] + [1] * dice.choice([0, 0, 3]))
                place = model_bits_fault(wrong)
                if place is None:
                    self.assertIsNone(model_config_fault(bits_config(wrong)))
                    self.assertEqual(config_bits(bits_config(wrong)), wrong)
                else:
                    faults.add(place)
                    self.fails(BadBits, {"place": place}, bits_config, wrong)
        self.assertLessEqual({8, 14, 20, 29}, faults)

    def test_a_great_one(self):
        config = empty_config((10, 10, 60, 6, 8))
        bits = config_bits(config)
        self.assertEqual(bits_config(bits), config)
        self.assertEqual(read_bits(bits_text(bits)), bits)


class TextTest(LoomTest):
    def test_examples(self):
        self.assertEqual(bits_text((1, 1, 1, 1)), "0000 00000004 0031\n0001 f 0050\n")
        self.assertEqual(read_bits("0000 00000004 0031\n0001 f 0050\n"), (1, 1, 1, 1))
        self.assertEqual(bits_text(()), "0000 00000000 0001\n")
        self.assertEqual(read_bits("0000 00000000 0001\n"), ())
        self.assertEqual(check_of(""), 1)
        self.assertEqual(check_of("0001f"), 80)
        self.assertEqual(check_of("f" * 36), 1 + 15 * 18 * 37)

    def test_lengths(self):
        dice = random.Random(2)
        for many in [*range(1, 10), 124, 125, 127, 128, 129, 132, 255, 256, 257, 2047, 2048, 2049]:
            bits = tuple(dice.randrange(2) for _ in range(many))
            self.assertEqual(bits_text(bits), plain_text(bits))
            self.assertEqual(read_bits(plain_text(bits)), bits)
            self.assertEqual(bits_text((1,) * many), plain_text((1,) * many))

    def wrong(self, text, row, place):
        self.assertEqual(text_fault(text), (row, place))
        self.fails(BadText, {"place": (row, place)}, read_bits, text)

    def test_wrong_places(self):
        text = bits_text((1, 0, 1, 1, 1))
        one, two = text.split("\n")[:2]
        self.wrong("", 0, 0)
        self.wrong("\n", 0, 0)
        self.wrong(one, 0, len(one))
        self.wrong(one + "\n", 1, 0)
        self.wrong(one + "\n" + two, 1, len(two))
        self.wrong(one + "\n\n", 1, 0)
        self.wrong(text + "\n", 2, 0)
        self.wrong(text + two + "\n", 2, 0)
        self.wrong(text + plain_row(2, "0"), 2, 0)
        self.wrong(text + "x", 2, 0)
        self.wrong(text + "000", 2, 3)
        self.wrong(two + "\n" + one + "\n", 0, 0)
        for row, place in [
            ("000 b8 0000", 3), ("0001b8 0000", 4), ("0001  b8 0000", 5), ("0001 b8  0000", 8), ("0001 b8 000", 11), ("0001 b8 00000", 12),
            ("0001 b8 0000 ", 12), ("0001 B8 0000", 5), ("000g b8 0000", 3), ("0001 b8", 7), ("0001 ", 5), ("0001", 4), (" 001 b8 0000", 0),
            ("0001 " + "0" * 33 + " 0000", 37), ("0001 " + "0" * 32, 37), ("0001 b8 00 0", 10), ("0001 b8 g000", 8), ("0001 b8\t0000", 7),
            ("0002 b8 0000", 0), ("0001 b80 0000", 5), ("0001 b 0000", 5), ("0001 bc 0000", 5), ("0001 b8 0000", 8), ("0001 b8 ffff", 8),
        ]:
            self.wrong(one + "\n" + row + "\n", 1, place)
        self.wrong(plain_row(0, "0000000"), 0, 5)
        self.wrong(plain_row(0, "000000000"), 0, 5)
        self.wrong(plain_row(0, "007fff81"), 0, 5)
        self.wrong(plain_row(0, "007fff80"), 1, 0)
        self.wrong("0000 00000000 0002\n", 0, 14)
        self.wrong("0001 00000000 0005\n", 0, 0)

    def test_one_exchange_is_found(self):
        dice = random.Random(3)
        for _ in range(60):
            bits = tuple(dice.randrange(2) for _ in range(dice.randint(1, 300)))
            rows = bits_text(bits).split("\n")[:-1]
            n = dice.randrange(len(rows))
            places = [k for k, sign in enumerate(rows[n]) if sign != " "]
            one, other = dice.choice(places), dice.choice(places[:-4])
            for row in (
                rows[n][:one] + dice.choice([sign for sign in HEX if sign != rows[n][one]]) + rows[n][one + 1:],
                "".join(rows[n][{one: other, other: one}.get(k, k)] for k in range(len(rows[n]))),
            ):
                if row != rows[n] and (one < len(rows[n]) - 4 or row[:-4] == rows[n][:-4]):
                    text = "\n".join(rows[:n] + [row] + rows[n + 1:]) + "\n"
                    self.wrong(text, *text_fault(text))

    def test_spoilt_by_chance(self):
        dice = random.Random(4)
        for _ in range(2500):
            text = bits_text(tuple(dice.randrange(2) for _ in range(dice.choice([0, 1, 5, 128, 130, 260]))))
            for _ in range(dice.choice([1, 1, 2])):
                place = dice.randrange(len(text))
                part = dice.choice(["", "0", "1", "f", " ", "\n", "g", text[:dice.randint(0, 30)]])
                text = text[:place] + part + text[place + dice.choice([0, 1, 1, 5]):]
            fault = text_fault(text)
            if fault is None:
                self.assertEqual(bits_text(read_bits(text)), text)
            else:
                self.fails(BadText, {"place": fault}, read_bits, text)


if __name__ == "__main__":
    unittest.main()
