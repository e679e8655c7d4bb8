"""Laying ([S7.6], [S7.7])."""

import random
import unittest

from graphmodels import CELLS_T, FABRIC_F, cell_runs, model_wanted
from layermodels import laid_runs, model_laid_fault, unused_wires
from samples import random_cells, random_lots, random_net
from support import LoomTest
from test_placing import ROW, model_room, random_fabric, random_placing

from bitloom.cells import cells_of
from bitloom.errors import NoRoom
from bitloom.fabric import fabric_for, pads_of, tiles_of
from bitloom.laid import check_laid
from bitloom.laying import lay, lay_placed
from bitloom.placing import crowded, has_room


def crowded_cells(dice, k, many, many_cells, many_outs):
    """A cell net all of whose cells have as many inputs as can be."""
    used = [dice.randrange(2) for _ in range(many_cells)]
    cells = []
    for c in range(many_cells):
        may_be = [s for s in range(many + many_cells) if used[c] or s < many + c or used[s - many]]
        inputs = tuple(dice.sample(may_be, min(k, len(may_be))))
        cells.append((inputs, dice.randrange(2 ** 2 ** len(inputs)), used[c], dice.randrange(2)))
    return k, many, tuple(cells), tuple(dice.randrange(many, many + many_cells) for _ in range(many_outs))


class LayingTest(LoomTest):
    def is_laid(self, fabric, cells, laid, placing=None):
        """What is laid is right, has no wire of no use, and the placing."""
        self.assertIsNone(model_laid_fault(fabric, cells, laid))
        self.assertEqual(unused_wires(fabric, laid), [])
        if placing is not None:
            self.assertEqual((laid[0], laid[1], tuple(out[:3] for out in laid[2])), placing)

    def test_examples(self):
        self.is_laid(FABRIC_F, CELLS_T, self.is_new(lay, FABRIC_F, CELLS_T))
        for tile in ((0, 0), (1, 0)):
            placing = ((tile,), ((1, 0, 0),), ((0, 0, 0),))
            self.is_laid(FABRIC_F, CELLS_T, self.is_new(lay_placed, FABRIC_F, CELLS_T, placing), placing)
        self.assertEqual(lay((2, 2, 1, 2, 1), (2, 0, (), ())), ((),) * 5)

    def test_words(self):
        for fabric, cells, word in [
            (FABRIC_F, (3, 3, (((0, 1, 2), 1, 0, 0),) * 3, (3, 3, 3)), "inputs"),
            (FABRIC_F, (3, 3, (((0, 1), 1, 0, 0),) * 3, (3, 3, 3)), "cells"),
            (FABRIC_F, (3, 3, (((0, 1), 1, 0, 0),) * 2, (3, 3, 3)), "ins"),
            (FABRIC_F, (3, 2, (((0, 1), 1, 0, 0),) * 2, (3, 3, 3)), "outs"),
        ]:
            self.fails(NoRoom, {"word": word}, lay, fabric, cells)

    def test_a_crowded_row(self):
        turned = (((2, 0), (1, 0), (0, 0)), ((0, 0, 0),), ((2, 0, 0),))
        self.fails(NoRoom, {"word": "tracks"}, lay_placed, (3, 1, 1, 2, 1), ROW, turned)
        self.is_laid((3, 1, 2, 2, 1), ROW, lay_placed((3, 1, 2, 2, 1), ROW, turned), turned)
        upright = (((0, 2), (0, 1), (0, 0)), ((0, 0, 0),), ((0, 2, 0),))
        self.fails(NoRoom, {"word": "tracks"}, lay_placed, (1, 3, 1, 2, 1), ROW, upright)
        self.is_laid((1, 3, 2, 2, 1), ROW, lay_placed((1, 3, 2, 2, 1), ROW, upright), upright)
        # A cut of a fabric of two rows may be crowded as well.
        cells = (2, 3, (((0, 1), 6, 0, 0), ((2,), 2, 0, 0)), (3, 4))
        placing = (((0, 0), (0, 1)), ((1, 0, 0), (1, 0, 1), (1, 1, 0)), ((0, 0, 0), (0, 1, 0)))
        self.assertEqual(crowded((2, 2, 1, 2, 2), cells, placing), (0, 1, 1))
        self.fails(NoRoom, {"word": "tracks"}, lay_placed, (2, 2, 1, 2, 2), cells, placing)
        self.is_laid((2, 2, 2, 2, 2), cells, lay_placed((2, 2, 2, 2, 2), cells, placing), placing)

    def test_rows_and_columns_just_if_no_cut_is_crowded(self):
        dice = random.Random(1)
        found = [0, 0]
        for _ in range(400):
            long = dice.randint(1, 6)
            fabric = (*dice.choice([(1, long), (long, 1)]), dice.randint(1, 4), dice.randint(2, 4), dice.randint(1, 3))
            cells = random_cells(dice, fabric[3], dice.randint(0, 4), dice.randint(0, long), dice.randint(0, 4))
            if not has_room(fabric, cells):
                continue
            placing = random_placing(dice, fabric, cells)
            if crowded(fabric, cells, placing) is None:
                found[0] += 1
                self.is_laid(fabric, cells, lay_placed(fabric, cells, placing), placing)
            else:
                found[1] += 1
                self.fails(NoRoom, {"word": "tracks"}, lay_placed, fabric, cells, placing)
        self.assertGreater(min(found), 40)

    def test_with_a_track_for_each_signal(self):
        dice = random.Random(2)
        for _ in range(60):
            fabric = random_fabric(dice)
            cells = crowded_cells(dice, fabric[3], dice.randint(0, 5), dice.randint(1, 6), dice.randint(0, 5))
            fabric = (fabric[0] + 1, fabric[1] + 1, max(1, len(model_wanted(cells))), *fabric[3:])
            if model_room(fabric, cells):
                continue
            placing = random_placing(dice, fabric, cells)
            self.is_laid(fabric, cells, lay_placed(fabric, cells, placing), placing)
            laid = lay(fabric, cells)
            self.is_laid(fabric, cells, laid)
            lots = random_lots(dice, [1] * cells[1], 6)
            self.assertEqual(laid_runs(fabric, cells, laid, lots), cell_runs(cells, lots))

    def test_with_few_tracks(self):
        dice = random.Random(3)
        found = [0, 0]
        for _ in range(150):
            fabric = (dice.randint(2, 4), dice.randint(2, 4), dice.randint(1, 3), dice.randint(2, 4), 2)
            cells = crowded_cells(dice, fabric[3], dice.randint(0, 4), dice.randint(4, fabric[0] * fabric[1]), 4)
            if model_room(fabric, cells):
                continue
            placing = random_placing(dice, fabric, cells)
            try:
                laid = lay_placed(fabric, cells, placing)
            except NoRoom as error:
                found[0] += 1
                self.assertEqual(error.word, "tracks")
                self.assertLess(fabric[2], len(model_wanted(cells)))
                self.fails(NoRoom, {"word": "tracks"}, lay_placed, fabric, cells, placing)
            else:
                found[1] += 1
                self.is_laid(fabric, cells, laid, placing)
                self.assertEqual(lay_placed(fabric, cells, placing), laid)
        self.assertGreater(min(found), 20)

    def test_one_gives_way_to_another(self):
        # Taken one after another, without any giving way, the signals of this net would not all come through.
        fabric = (2, 2, 1, 3, 2)
        cells = (3, 0, (((0, 1, 2), 8, 1, 1), ((0, 1, 2), 4, 1, 1), ((1, 0), 13, 0, 0)), (1, 2, 2))
        placing = (((0, 0), (0, 1), (1, 0)), (), ((0, 1, 1), (0, 0, 1), (1, 1, 0)))
        self.is_laid(fabric, cells, lay_placed(fabric, cells, placing), placing)

    def test_fabrics_told_by_counts(self):
        dice = random.Random(4)
        for _ in range(15):
            net = random_net(dice, dice.randint(2, 4), dice.randint(0, 6), dice.randint(0, 5), dice.randint(0, 9), 4)
            cells = cells_of(net)
            many = len(net[2]) + len(net[3]) + len(net[4])
            fabric = fabric_for(net[0], many, many + net[1], net[1], len(net[4]))
            self.is_laid(fabric, cells, lay(fabric, cells))

    def test_great_ones(self):
        dice = random.Random(5)
        for tracks in (60, 9, 2):
            fabric = (10, 10, tracks, 6, 4)
            cells = crowded_cells(dice, 6, 128, 100, 128)
            tiles, pads = tiles_of(fabric), pads_of(fabric)
            placing = (tuple(dice.sample(tiles, 100)), tuple(dice.sample(pads, 128)), tuple(dice.sample(pads, 128)))
            try:
                self.assertIsNone(check_laid(fabric, cells, lay_placed(fabric, cells, placing)))
            except NoRoom as error:
                self.assertEqual((error.word, tracks < 60), ("tracks", True))


if __name__ == "__main__":
    unittest.main()
