"""Fabrics ([S7.1], [S7.7])."""

import itertools
import unittest

from graphmodels import FABRIC_F
from samples import replaced
from support import LOOSE, LoomTest, deep

from bitloom.errors import BadFabric, NoRoom
from bitloom.fabric import (
    all_wires, check_fabric, fabric_for, is_border, is_wire, neighbour, pads_of, tiles_of, wire_in,
)

FABRICS = [FABRIC_F, (1, 1, 1, 2, 1), (1, 3, 2, 3, 2), (3, 1, 1, 2, 1), (2, 2, 1, 2, 8), (3, 3, 2, 4, 2), (4, 5, 3, 6, 1), (7, 6, 1, 2, 1)]


def beside(fabric, x, y):
    """The neighbours of a tile, None where there is none, side by side."""
    tiles = [(x + 1, y), (x, y + 1), (x - 1, y), (x, y - 1)]
    return [tile if 0 <= tile[0] < fabric[0] and 0 <= tile[1] < fabric[1] else None for tile in tiles]


def model_for(k, cells, signals, ins, outs):
    """The fabric for so much, trying numbers one after another; or a word."""
    side = next(s for s in itertools.count(1) if s * s >= cells)
    if side > 16:
        return "cells"
    border = sum(None in beside((side, side), x, y) for x in range(side) for y in range(side))
    for word, many in (("ins", ins), ("outs", outs)):
        if 8 * border < many:
            return word
    if signals > 60:
        return "tracks"
    pads = next(p for p in itertools.count(1) if p * border >= max(ins, outs))
    return side, side, max(signals, 1), k, pads


class FabricTest(LoomTest):
    def test_check(self):
        for fabric in [*FABRICS, (16, 16, 60, 6, 8)]:
            self.assertIsNone(check_fabric(fabric))
        for value in [*LOOSE, list(FABRIC_F), FABRIC_F[:4], (*FABRIC_F, 1), deep(FABRIC_F, 30)]:
            self.fails(BadFabric, {"path": ()}, check_fabric, value)
        for n, (least, most) in enumerate([(1, 16), (1, 16), (1, 60), (2, 6), (1, 8)]):
            for part in (least, most):
                self.assertIsNone(check_fabric(replaced(FABRIC_F, (n,), part)))
            for part in (least - 1, most + 1, -1, 10**39, True, None, "1", (1,)):
                self.fails(BadFabric, {"path": (n,)}, check_fabric, replaced(FABRIC_F, (n,), part))
                for m in range(n + 1, 5):
                    value = replaced(replaced(FABRIC_F, (n,), part), (m,), None)
                    self.fails(BadFabric, {"path": (n,)}, check_fabric, value)

    def test_tiles(self):
        for fabric in FABRICS:
            tiles = [(x, y) for y in range(fabric[1]) for x in range(fabric[0])]
            self.assertEqual(self.is_new(tiles_of, fabric), tiles)
            border = []
            for x, y in tiles:
                self.assertEqual([neighbour(fabric, x, y, side) for side in range(4)], beside(fabric, x, y))
                self.assertIs(is_border(fabric, x, y), None in beside(fabric, x, y))
                border += [(x, y)] if None in beside(fabric, x, y) else []
            pads = [(x, y, p) for x, y in border for p in range(fabric[4])]
            self.assertEqual(self.is_new(pads_of, fabric), pads)
        self.assertIs(is_border((3, 3, 1, 2, 1), 1, 1), False)

    def test_wires(self):
        self.assertEqual(self.is_new(all_wires, FABRIC_F), [(0, 0, 0, 0), (1, 0, 2, 0)])
        for fabric in FABRICS:
            found = []
            for wire in itertools.product(range(fabric[0]), range(fabric[1]), range(-2, 7), range(fabric[2])):
                x, y, side, track = wire
                if side not in range(4):
                    self.assertIs(is_wire(fabric, wire), False)
                    continue
                tile = beside(fabric, x, y)[side]
                self.assertIs(is_wire(fabric, wire), tile is not None)
                # What leaves the neighbour to the opposite side comes in here.
                opposite = {0: 2, 1: 3, 2: 0, 3: 1}[side]
                self.assertEqual(wire_in(fabric, x, y, side, track), tile and (*tile, opposite, track))
                found += [wire] if tile else []
            self.assertEqual(all_wires(fabric), sorted(found))

    def test_what_is_no_wire(self):
        fabric = (3, 3, 2, 2, 1)
        self.assertIs(is_wire(fabric, (0, 0, 0, 0)), True)
        for value in [*LOOSE, [0, 0, 0, 0], (0, 0, 0), (0, 0, 0, 0, 0), (0, 0, 2, 0), (0, 0, 3, 0), (2, 0, 0, 0), (0, 2, 1, 0),
                      (3, 0, 2, 0), (0, 3, 3, 0), (-1, 0, 0, 0), (0, -1, 1, 0), (0, 0, 4, 0), (0, 0, -1, 0), (0, 0, 0, 2),
                      (0, 0, 0, -1), (True, 0, 0, 0), (0, False, 0, 0), (0, 0, None, 0), (0, 0, 0, "0"), ((0,), 0, 0, 0),
                      deep((0, 0, 0, 0), 30)]:
            self.assertIs(is_wire(fabric, value), False, value)

    def test_fabric_for(self):
        for cells in [0, 1, 2, 4, 5, 9, 10, 99, 100, 101, 225, 226, 256]:
            for signals, ins, outs in [(0, 0, 0), (1, 1, 1), (60, 8, 3), (7, 40, 60), (3, 9, 8), (30, 480, 1), (30, 1, 480)]:
                told = model_for(4, cells, signals, ins, outs)
                if isinstance(told, str):
                    self.fails(NoRoom, {"word": told}, fabric_for, 4, cells, signals, ins, outs)
                else:
                    self.assertEqual(fabric_for(4, cells, signals, ins, outs), told)
                    self.assertIsNone(check_fabric(told))
        self.assertEqual(fabric_for(2, 0, 0, 0, 0), (1, 1, 1, 2, 1))
        self.assertEqual(fabric_for(6, 256, 60, 480, 480), (16, 16, 60, 6, 8))

    def test_the_first_word(self):
        order = [(257, "cells"), (481, "ins"), (481, "outs"), (61, "tracks")]
        for k, (_, word) in enumerate(order):
            cells, ins, outs, signals = [0 if j < k else many for j, (many, _) in enumerate(order)]
            self.fails(NoRoom, {"word": word}, fabric_for, 2, cells, signals, ins, outs)
        self.fails(NoRoom, {"word": "cells"}, fabric_for, 2, 10**6, 10**6, 10**6, 10**6)
        self.fails(NoRoom, {"word": "ins"}, fabric_for, 2, 1, 0, 9, 9)
        self.fails(NoRoom, {"word": "outs"}, fabric_for, 2, 1, 0, 8, 9)
        self.fails(NoRoom, {"word": "tracks"}, fabric_for, 2, 1, 61, 8, 8)
        self.assertEqual(fabric_for(2, 1, 60, 8, 8), (1, 1, 60, 2, 8))


if __name__ == "__main__":
    unittest.main()
