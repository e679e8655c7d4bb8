"""What is laid ([S7.4], [S7.5])."""

import random
import unittest

from graphmodels import CELLS_T, FABRIC_F, cell_runs
from layermodels import LAID_T, carries, laid_runs, model_laid_fault, spoilt
from samples import random_cells, random_lots, replaced
from support import LOOSE, LoomTest, deep
from test_placing import random_fabric, random_placing

from bitloom.errors import BadLaid, NoRoom
from bitloom.fabric import all_wires
from bitloom.laid import carried, check_laid, laid_outputs
from bitloom.laying import lay_placed
from bitloom.placing import has_room

# In bit 0 and cell 0, which takes it and has no register, on a row of three tiles; the in bit goes round by two tracks.
FABRIC = (3, 1, 2, 2, 2)
CELLS = (2, 1, (((0,), 1, 0, 0), ((1, 0), 6, 1, 1)), (1, 2))
LAID = (
    ((1, 0), (2, 0)), ((0, 0, 1),), ((2, 0, 1, ("wire", 2, 0)), (2, 0, 0, ("cell",))),
    (((0, 0, 0, 1), ("pad", 1)), ((1, 0, 0, 0), ("cell",)), ((1, 0, 0, 1), ("wire", 2, 1))),
    ((("wire", 2, 1),), (("wire", 2, 0), ("wire", 2, 1))),
)


def random_laid(dice):
    """A fabric, a cell net that has room on it, and what is laid of it, or None."""
    fabric = (*random_fabric(dice)[:2], dice.randint(1, 4), *random_fabric(dice)[3:])
    cells = random_cells(dice, fabric[3], dice.randint(0, 3), dice.randint(0, 5), dice.choice([0, 1, 2, 3]))
    if not has_room(fabric, cells):
        return None
    try:
        return fabric, cells, lay_placed(fabric, cells, random_placing(dice, fabric, cells))
    except NoRoom:
        return None


def many_laid(seed, many):
    """Many such triples."""
    dice = random.Random(seed)
    found = []
    while len(found) < many:
        told = random_laid(dice)
        if told:
            found.append(told)
    return found


class CheckTest(LoomTest):
    def refused(self, value, word, number, fabric=FABRIC, cells=CELLS):
        self.fails(BadLaid, {"word": word, "number": number}, check_laid, fabric, cells, value)
        self.assertEqual(model_laid_fault(fabric, cells, value), (word, number))

    def test_right(self):
        for fabric, cells, value in [(FABRIC_F, CELLS_T, LAID_T), (FABRIC, CELLS, LAID), (FABRIC_F, (2, 0, (), ()), ((),) * 5)]:
            self.assertIsNone(check_laid(fabric, cells, value))
            self.assertIsNone(model_laid_fault(fabric, cells, value))

    def test_form(self):
        for value in [*LOOSE, list(LAID), LAID[:4], (*LAID, ()), deep(LAID, 40)]:
            self.refused(value, "form", None)
        for path in [(k,) for k in range(5)] + [(k, 0) for k in range(5)] + [(3, 0, 0), (3, 0, 1), (2, 0, 3), (4, 1, 0)]:
            for part in (None, [], [1, 2], "cell", 1, ((0, 0),) * 3):
                self.refused(replaced(LAID, path, part), "form", None)
        for path in [(0, 0, 1), (1, 0, 2), (2, 1, 0), (2, 1, 2), (3, 1, 0, 3), (3, 0, 1, 1), (4, 0, 0, 2), (4, 0, 0, 1)]:
            for part in (None, True, "1", (1,)):
                self.refused(replaced(LAID, path, part), "form", None)
        for part in [(), ("cell", 0), ("pad",), ("pad", 1, 1), ("wire", 1), ("wire", 1, 1, 1), ("tile",), (("cell",),), ([],)]:
            for path in [(2, 1, 3), (3, 1, 1), (4, 1, 1)]:
                self.refused(replaced(LAID, path, part), "form", None)
        self.refused(replaced(LAID, (4, 1), LAID[4][1][:1]), "form", None)
        self.refused(replaced(LAID, (4, 0), LAID[4][1]), "form", None)

    def test_places(self):
        for part in [(3, 0), (0, 1), (-1, 0), (10**39, 0)]:
            self.refused(replaced(LAID, (0, 0), part), "tile", 0)
            self.refused(replaced(LAID, (0, 1), part), "tile", 1)
        self.refused(replaced(LAID, (0, 1), (1, 0)), "tile", 1)
        for part in [(3, 0, 0), (0, 0, 2), (0, 0, -1), (0, -1, 0)]:
            self.refused(replaced(LAID, (1, 0), part), "in", 0)
            self.refused(replaced(LAID, (2, 1), (*part, ("cell",))), "out", 1)
        self.refused(replaced(LAID, (2, 1), (2, 0, 1, ("cell",))), "out", 1)
        # Tiles within a wide fabric are no border tiles, and have no pads.
        cells, laid = (2, 1, (), ()), ((), ((1, 1, 0),), (), (), ())
        self.refused(laid, "in", 0, (3, 3, 1, 2, 1), cells)
        self.assertIsNone(check_laid((3, 2, 1, 2, 1), cells, laid))

    def test_wires(self):
        for wire in [(0, 0, 2, 0), (0, 0, 1, 0), (2, 0, 0, 1), (0, 0, 0, 2), (0, 0, 4, 0), (-1, 0, 0, 0), (9, 0, 0, 0)]:
            self.refused(replaced(LAID, (3, 0, 0), wire), "wire", 0)
        self.refused(replaced(LAID, (3, 1, 0), (0, 0, 0, 1)), "wire", 1)
        self.refused(replaced(LAID, (3, 1, 0), (0, 0, 0, 0)), "wire", 1)
        for source in [("pad", 2), ("pad", -1), ("wire", 2, 0), ("wire", 1, 1), ("wire", 0, 2), ("wire", 4, 0)]:
            self.refused(replaced(LAID, (3, 0, 1), source), "wire", 0)
        # A wire keeps its track, and may go back to where it came from.
        self.refused(replaced(LAID, (3, 2, 1), ("wire", 2, 0)), "wire", 2)
        back = (*LAID[3][:2], ((1, 0, 0, 1), ("wire", 2, 1)), ((1, 0, 2, 1), ("wire", 2, 1)))
        self.assertIsNone(check_laid(FABRIC, CELLS, replaced(LAID, (3,), back)))

    def test_empty_wires(self):
        self.refused(replaced(LAID, (3, 0, 1), ("cell",)), "empty", 0)
        self.refused(replaced(LAID, (3, 0, 1), ("pad", 0)), "empty", 0)
        self.refused(replaced(LAID, (3,), LAID[3][1:]), "empty", 1)
        # Wires in a ring, and one that takes them, carry nothing.
        ring = (((0, 0, 0, 1), ("wire", 0, 1)), LAID[3][1], LAID[3][2], ((1, 0, 2, 1), ("wire", 2, 1)))
        self.refused(replaced(LAID, (3,), ring), "empty", 0)
        ring = (*LAID[3][:2], ((1, 0, 0, 1), ("wire", 0, 1)), ((2, 0, 2, 1), ("wire", 2, 1)))
        self.refused(replaced(LAID, (3,), ring), "empty", 2)

    def test_inputs_and_outs(self):
        for source in [("wire", 0, 1), ("wire", 2, 0), ("cell",), ("pad", 0), ("pad", 5), ("wire", 1, 0)]:
            self.refused(replaced(LAID, (4, 0, 0), source), "input", 0)
        self.refused(replaced(LAID, (4, 1), LAID[4][1][::-1]), "input", 1)
        for source in [("cell",), ("pad", 0), ("wire", 2, 1), ("wire", 0, 0), ("wire", 2, 2)]:
            self.refused(replaced(LAID, (2, 0, 3), source), "output", 0)
        self.refused(replaced(LAID, (2, 1, 3), ("wire", 2, 0)), "output", 1)
        # An out pad takes no in pad, whatever this has.
        cells = (2, 1, (((0,), 2, 0, 0),), (1,))
        laid = (((0, 0),), ((0, 0, 0),), ((0, 0, 0, ("pad", 0)),), (), ((("pad", 0),),))
        self.refused(laid, "output", 0, (1, 1, 1, 2, 1), cells)
        self.assertIsNone(check_laid((1, 1, 1, 2, 1), cells, replaced(laid, (2, 0, 3), ("cell",))))

    def test_spoilt_by_chance(self):
        dice = random.Random(3)
        words = set()
        for fabric, cells, laid in many_laid(1, 120):
            self.assertIsNone(check_laid(fabric, cells, laid))
            for _ in range(25):
                value = spoilt(dice, laid, dice.choice([1, 1, 2, 3]))
                fault = model_laid_fault(fabric, cells, value)
                words.add(fault and fault[0])
                if fault is None:
                    self.assertIsNone(check_laid(fabric, cells, value))
                else:
                    self.fails(BadLaid, dict(zip(("word", "number"), fault)), check_laid, fabric, cells, value)
        self.assertEqual(words, {None, "form", "tile", "in", "out", "wire", "empty", "input", "output"})


class RunTest(LoomTest):
    def test_examples(self):
        self.assertEqual(self.is_new(carried, FABRIC_F, CELLS_T, LAID_T), [((0, 0, 0, 0), 1), ((1, 0, 2, 0), 0)])
        lots = [(1,), (0,), (1,), (1,)]
        self.assertEqual(self.is_new(laid_outputs, FABRIC_F, CELLS_T, LAID_T, lots), [(0,), (1,), (1,), (0,)])
        self.assertEqual(carried(FABRIC, CELLS, LAID), [((0, 0, 0, 1), 0), ((1, 0, 0, 0), 1), ((1, 0, 0, 1), 0)])
        self.assertEqual(carried(FABRIC_F, (2, 0, (), ()), ((),) * 5), [])
        self.assertEqual(laid_outputs(FABRIC_F, (2, 0, (), ()), ((),) * 5, [(), ()]), [(), ()])

    def test_outputs_go_by_the_wires(self):
        # The wires to the second cell are exchanged, so it has other inputs than its net tells.
        cells = replaced(CELLS, (2, 1, 1), 2)
        lots = [(0,), (1,), (0,), (0,)]
        turned = replaced(LAID, (4, 1), LAID[4][1][::-1])
        self.assertEqual(laid_outputs(FABRIC, cells, turned, lots), laid_runs(FABRIC, cells, turned, lots))
        self.assertNotEqual(laid_outputs(FABRIC, cells, turned, lots), laid_outputs(FABRIC, cells, LAID, lots))

    def test_by_chance(self):
        dice = random.Random(2)
        for fabric, cells, laid in many_laid(4, 150):
            told = self.is_new(carried, fabric, cells, laid)
            self.assertEqual(told, [(wire, carries(fabric, cells, laid, *wire[:2], source)) for wire, source in laid[3]])
            lots = random_lots(dice, [1] * cells[1], 6)
            outputs = self.is_new(laid_outputs, fabric, cells, laid, lots)
            self.assertEqual(outputs, laid_runs(fabric, cells, laid, lots))
            self.assertEqual(outputs, cell_runs(cells, lots))

    def test_a_long_way(self):
        # One signal goes along all wires of a track, again and again, in a fabric of many tiles.
        fabric, cells = (10, 10, 1, 2, 1), (2, 1, (((0,), 2, 1, 0),), (1,))
        wires, x, y = [], 0, 0
        for k in range(99):
            side = 1 if k % 10 == 9 else 0 if k // 10 % 2 == 0 else 2
            wires.append(((x, y, side, 0), ("pad", 0) if k == 0 else ("wire", (back + 2) % 4, 0)))
            x, y, back = x + (side == 0) - (side == 2), y + (side == 1), side
        laid = (((x, y),), ((0, 0, 0),), ((x, y, 0, ("cell",)),), tuple(sorted(wires)), ((("wire", (back + 2) % 4, 0),),))
        self.assertIsNone(check_laid(fabric, cells, laid))
        self.assertEqual(laid_outputs(fabric, cells, laid, [(1,), (0,), (1,)]), [(0,), (1,), (0,)])
        self.assertEqual({signal for _, signal in carried(fabric, cells, laid)}, {0})
        self.assertEqual(len(all_wires(fabric)), 360)


if __name__ == "__main__":
    unittest.main()
