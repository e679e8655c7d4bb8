"""Loaders ([S8.8])."""

import random
import unittest

from layermodels import CONFIG_C
from samples import random_lots, replaced
from support import LoomTest
from test_bits import plain_row, row_form
from test_machine import RING, still_configs

from bitloom.bits import bits_text, config_bits
from bitloom.configs import empty_config
from bitloom.errors import BadText, NoMachine, NotWhole
from bitloom.loader import Loader
from bitloom.machine import run


def rows_of(config):
    """The rows of the text of the bits of a config."""
    return bits_text(config_bits(config)).split("\n")[:-1]


ROWS_C = rows_of(CONFIG_C)
LOTS = [(0, 1), (1, 1), (1, 0), (1, 1)]


class LoaderTest(LoomTest):
    def stands(self, loader, numbers, missing, is_whole):
        self.assertEqual(self.is_new(loader.numbers), numbers)
        self.assertEqual(self.is_new(loader.missing), missing)
        self.assertIs(loader.is_whole(), is_whole)
        if not is_whole:
            self.fails(NotWhole, {}, loader.switch)
            self.assertEqual(loader.numbers(), numbers)

    def test_at_first(self):
        loader = Loader()
        self.stands(loader, [], [0], False)
        self.assertIsNone(loader.machine())
        self.fails(NoMachine, {}, loader.step, ())
        self.assertIsNone(loader.drop())

    def test_rows_in_any_sequence(self):
        for sequence in ([0, 1], [1, 0], [1, 1, 0, 1, 0]):
            loader = Loader()
            for n in sequence:
                self.assertEqual(loader.take(ROWS_C[n]), n)
            self.stands(loader, [0, 1], [], True)
            self.assertIsNone(loader.switch())
            self.stands(loader, [], [0], False)
            self.assertEqual([loader.step(lot) for lot in LOTS], run(CONFIG_C, LOTS))
        loader = Loader()
        loader.take(ROWS_C[1])
        self.stands(loader, [1], [0], False)

    def test_wrong_rows(self):
        loader = Loader()
        loader.take(ROWS_C[0])
        for row, place in [
            ("", 0), ("0000", 4), ("0000 ", 5), ("0000 0", 6), ("0000 g", 5), (ROWS_C[1] + "0", len(ROWS_C[1])), (ROWS_C[1] + "\n", len(ROWS_C[1])),
            (ROWS_C[1][:-1], len(ROWS_C[1]) - 1), (ROWS_C[1][:-1] + "x", len(ROWS_C[1]) - 1), ("0001  1 0000", 5), ("0001 1 0000", 7),
            ("0001 1 0009", 7), (plain_row(0, "0000000")[:-1], 5), (plain_row(0, "000000000")[:-1], 5), (plain_row(0, "007fff81")[:-1], 5),
            ("0000 0000000 0009", 13), ("0000 007fff81 0000", 14),
        ]:
            self.fails(BadText, {"place": place}, loader.take, row)
            self.stands(loader, [0], [1], False)
        self.assertEqual(loader.take(plain_row(0, "007fff80")[:-1]), 0)
        self.assertEqual(len(loader.missing()), 65535)
        self.assertEqual(loader.take(plain_row(65535, "0")[:-1]), 65535)
        self.assertEqual(loader.take(plain_row(65534, "0" * 32)[:-1]), 65534)
        self.assertEqual(loader.missing()[-2:], [65533, 65535])

    def test_rows_of_no_use(self):
        loader = Loader()
        for row in ROWS_C:
            loader.take(row)
        # A row beyond those that row 0 tells bars the bench, and is not told to be missing.
        loader.take(plain_row(2, "0")[:-1])
        self.stands(loader, [0, 1, 2], [], False)
        self.assertIsNone(loader.drop())
        self.stands(loader, [], [0], False)
        loader.take(ROWS_C[0])
        many = int(ROWS_C[0].split(" ")[1], 16)
        middle = ROWS_C[1].split(" ")[1]
        fills = 4 * len(middle) - many % 128
        self.assertGreater(fills, 0)
        for wrong in (middle[:-1], middle + "0", middle[:-1] + f"{int(middle[-1], 16) | 1:x}"):
            loader.take(plain_row(1, wrong)[:-1])
            self.stands(loader, [0, 1], [1], False)
        # Another one takes its place.
        loader.take(ROWS_C[1])
        self.stands(loader, [0, 1], [], True)
        # Bits that tell no config, and a config that is not still.
        loader.take(plain_row(1, "f" + middle[1:])[:-1])
        self.stands(loader, [0, 1], [], False)
        loader.take(plain_row(0, "00000000")[:-1])
        self.stands(loader, [0, 1], [], False)
        loader.drop()
        loader.take(plain_row(0, "00000000")[:-1])
        self.stands(loader, [0], [], False)
        for row in rows_of(RING):
            loader.take(row)
        self.stands(loader, [0, 1], [], False)

    def test_what_runs_goes_on(self):
        other = replaced(CONFIG_C, (3, 1, 0), 7)
        loader = Loader()
        for row in ROWS_C:
            loader.take(row)
        loader.switch()
        told = run(CONFIG_C, LOTS)
        self.assertEqual(loader.step(LOTS[0]), told[0])
        for row in rows_of(other):
            loader.take(row)
        twin = loader.machine()
        self.assertEqual(loader.step(LOTS[1]), told[1])
        self.assertEqual([twin.step(lot) for lot in LOTS[1:]], told[1:])
        self.assertEqual(loader.step(LOTS[2]), told[2])
        loader.switch()
        self.assertEqual(loader.machine().config(), other)
        self.assertEqual([loader.step(lot) for lot in LOTS], run(other, LOTS))
        self.fails(NotWhole, {}, loader.switch)
        self.assertEqual(loader.machine().config(), other)

    def test_rows_of_several_texts_together(self):
        empty = empty_config((2, 2, 1, 3, 1))
        one, other = replaced(empty, (3, 0, 0), 5), replaced(empty, (3, 3, 4, 2, 0), ("cell",))
        self.assertEqual(len(rows_of(empty)), 3)
        loader = Loader()
        for row in (rows_of(other)[0], rows_of(one)[1], rows_of(other)[2]):
            loader.take(row)
        loader.switch()
        self.assertEqual(loader.machine().config(), replaced(one, (3, 3, 4, 2, 0), ("cell",)))

    def test_by_chance(self):
        dice = random.Random(1)
        for config in still_configs(5, 60):
            loader = Loader()
            rows = rows_of(config)
            sent = rows + dice.choices(rows, k=3)
            dice.shuffle(sent)
            for row in sent:
                spoilt = row[:dice.randrange(len(row))] + dice.choice(["0", "f", " ", ""]) + row[dice.randrange(len(row)):]
                if row_form(spoilt) is not None:
                    self.fails(BadText, {"place": row_form(spoilt)}, loader.take, spoilt)
                self.assertEqual(loader.take(row), int(row[:4], 16))
            self.stands(loader, list(range(len(rows))), [], True)
            loader.switch()
            lots = random_lots(dice, [1] * len(config[1]), 5)
            self.assertEqual([loader.step(lot) for lot in lots], run(config, lots))


if __name__ == "__main__":
    unittest.main()
