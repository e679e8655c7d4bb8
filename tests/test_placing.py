"""Placings ([S7.4], [S7.6], [S7.7])."""

import random
import unittest

from graphmodels import CELLS_T, FABRIC_F, model_length, model_settled, model_wanted, signal_spots
from samples import random_cells
from support import LoomTest

from bitloom.errors import NoRoom
from bitloom.fabric import pads_of, tiles_of
from bitloom.placing import crossing, crowded, has_room, is_settled, length, place

PLACED_T = (((0, 0),), ((1, 0, 0),), ((1, 0, 0),))
# Three cells in a row, one behind the other, on three tiles.
ROW = (2, 1, (((0,), 2, 0, 0), ((1,), 2, 0, 0), ((2,), 2, 0, 0)), (3,))
PLACED_ROW = (((0, 0), (1, 0), (2, 0)), ((0, 0, 0),), ((2, 0, 0),))


def random_placing(dice, fabric, cells):
    """Any placing of a cell net that has room."""
    tiles = dice.sample(tiles_of(fabric), len(cells[2]))
    ins = dice.sample(pads_of(fabric), cells[1])
    return tuple(tiles), tuple(ins), tuple(dice.sample(pads_of(fabric), len(cells[3])))


def random_fabric(dice):
    """A small fabric."""
    return dice.randint(1, 4), dice.randint(1, 3), dice.randint(1, 2), dice.randint(2, 4), dice.randint(1, 3)


def model_room(fabric, cells):
    """The first word of what there is too little of, or None."""
    pads = len(pads_of(fabric))
    lacks = [
        ("inputs", any(len(cell[0]) > fabric[3] for cell in cells[2])), ("cells", len(cells[2]) > fabric[0] * fabric[1]),
        ("ins", cells[1] > pads), ("outs", len(cells[3]) > pads),
    ]
    return next((word for word, is_lacking in lacks if is_lacking), None)


def model_crossing(cells, placing, cut):
    """The signals that cross a cut, by S7.7."""
    axis, at, way = cut
    found = []
    for signal in model_wanted(cells):
        begin, wants = signal_spots(cells, placing, signal)
        ahead, behind = begin[axis] < at, [spot[axis] < at for spot in wants]
        if way == 0 and ahead and False in behind or way == 1 and not ahead and True in behind:
            found.append(signal)
    return found


def all_cuts(fabric):
    """All cuts of a fabric, ascending."""
    return sorted((axis, at, way) for axis in (0, 1) for at in range(1, fabric[axis]) for way in (0, 1))


class PlacingTest(LoomTest):
    def is_placed(self, fabric, cells):
        """What is placed is as told; returns it."""
        placing = self.is_new(place, fabric, cells)
        tiles, ins, outs = placing
        self.assertTrue(all(isinstance(part, tuple) for part in placing))
        self.assertEqual([len(part) for part in placing], [len(cells[2]), cells[1], len(cells[3])])
        for part, may_be in ((tiles, tiles_of(fabric)), (ins, pads_of(fabric)), (outs, pads_of(fabric))):
            self.assertEqual(len(set(part)), len(part))
            self.assertLessEqual(set(part), set(may_be))
        self.assertIs(is_settled(fabric, cells, placing), True)
        self.assertTrue(model_settled(fabric, cells, placing))
        return placing

    def test_examples(self):
        self.assertIs(has_room(FABRIC_F, CELLS_T), True)
        self.assertEqual(length(CELLS_T, PLACED_T), 2)
        self.assertIs(is_settled(FABRIC_F, CELLS_T, PLACED_T), False)
        self.assertIs(is_settled(FABRIC_F, CELLS_T, (((1, 0),), *PLACED_T[1:])), True)
        self.assertEqual(length(CELLS_T, (((1, 0),), *PLACED_T[1:])), 0)
        self.assertEqual(self.is_new(crossing, CELLS_T, PLACED_T, (0, 1, 0)), [1])
        self.assertEqual(crossing(CELLS_T, PLACED_T, (0, 1, 1)), [0])
        self.assertIsNone(crowded(FABRIC_F, CELLS_T, PLACED_T))
        self.is_placed(FABRIC_F, CELLS_T)

    def test_a_row(self):
        fabric = (3, 1, 1, 2, 1)
        self.assertEqual(length(ROW, PLACED_ROW), 2)
        self.assertIs(is_settled(fabric, ROW, PLACED_ROW), True)
        turned = (((2, 0), (1, 0), (0, 0)), *PLACED_ROW[1:])
        self.assertEqual(length(ROW, turned), 6)
        self.assertIs(is_settled(fabric, ROW, turned), False)
        # Between the first two columns both the in bit and the last cell's output go to the east.
        self.assertEqual(crossing(ROW, turned, (0, 1, 0)), [0, 3])
        self.assertEqual(crossing(ROW, turned, (0, 2, 1)), [1])
        self.assertEqual(crowded(fabric, ROW, turned), (0, 1, 0))
        self.assertIsNone(crowded((3, 1, 2, 2, 1), ROW, turned))
        self.is_placed(fabric, ROW)

    def test_signals_wanted_by_nothing_count_for_nothing(self):
        cells = (2, 1, (((), 1, 0, 0), ((1,), 1, 0, 0)), ())
        self.assertEqual(length(cells, (((0, 0), (2, 0)), ((3, 0, 0),), ())), 2)
        self.assertEqual(crossing(cells, (((0, 0), (2, 0)), ((3, 0, 0),), ()), (0, 3, 1)), [])

    def test_room(self):
        for fabric, cells, word in [
            (FABRIC_F, (3, 3, (((0, 1, 2), 1, 0, 0),) * 3, (3, 3, 3)), "inputs"),
            (FABRIC_F, (3, 3, (((0, 1), 1, 0, 0),) * 3, (3, 3, 3)), "cells"),
            (FABRIC_F, (3, 3, (((0, 1), 1, 0, 0),) * 2, (3, 3, 3)), "ins"),
            (FABRIC_F, (3, 2, (((0, 1), 1, 0, 0),) * 2, (3, 3, 3)), "outs"),
            (FABRIC_F, (3, 2, (((0, 1), 1, 0, 0),) * 2, (3, 3)), None),
            # A k beyond the fabric's is let, if no cell has so many inputs.
            (FABRIC_F, (6, 2, (((0, 1), 1, 0, 0),), ()), None), ((1, 1, 1, 2, 1), (2, 0, (), ()), None),
            ((3, 3, 1, 2, 1), (2, 8, (), ()), None), ((3, 3, 1, 2, 1), (2, 9, (), ()), "ins"),
        ]:
            self.assertIs(has_room(fabric, cells), word is None)
            if word is None:
                self.is_placed(fabric, cells)
            else:
                self.fails(NoRoom, {"word": word}, place, fabric, cells)

    def test_by_chance(self):
        dice = random.Random(1)
        words = set()
        for _ in range(200):
            fabric = random_fabric(dice)
            many_outs = dice.choice([0, 1, 3, 5, 6, 12])
            cells = random_cells(dice, dice.randint(2, 4), dice.randint(0, 6), dice.randint(0, 8), many_outs)
            word = model_room(fabric, cells)
            words.add(word)
            self.assertIs(has_room(fabric, cells), word is None)
            if word is not None:
                self.fails(NoRoom, {"word": word}, place, fabric, cells)
                continue
            self.is_placed(fabric, cells)
            for _ in range(4):
                placing = random_placing(dice, fabric, cells)
                self.assertEqual(length(cells, placing), model_length(cells, placing))
                self.assertIs(is_settled(fabric, cells, placing), model_settled(fabric, cells, placing))
                first = None
                for cut in all_cuts(fabric):
                    told = self.is_new(crossing, cells, placing, cut)
                    self.assertEqual(told, model_crossing(cells, placing, cut))
                    if first is None and len(told) > fabric[2] * fabric[1 - cut[0]]:
                        first = cut
                self.assertEqual(crowded(fabric, cells, placing), first)
        self.assertEqual(words, {None, "inputs", "cells", "ins", "outs"})

    def test_great_ones(self):
        dice = random.Random(2)
        fabric = (10, 10, 20, 6, 8)
        cells = random_cells(dice, 4, 128, 100, 128)
        placing = place(fabric, cells)
        self.assertIs(is_settled(fabric, cells, placing), True)
        self.assertEqual(length(cells, placing), model_length(cells, placing))
        self.assertLess(length(cells, placing), model_length(cells, random_placing(dice, fabric, cells)))


if __name__ == "__main__":
    unittest.main()
