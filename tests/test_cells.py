"""Cell nets ([S7.2], [S7.3])."""

import random
import unittest

from graphmodels import CELLS_T, cell_runs, model_wanted, net_runs
from samples import random_cells, random_lots, random_net, replaced
from support import LOOSE, LoomTest, deep

from bitloom.cells import cell_outputs, cells_of, check_cells, wanted
from bitloom.errors import BadNet

# Signals 0 and 1 are in bits; cell 2 is 0 and 1, cell 3 has a register, cell 4 is 2 unlike 3.
CELLS = (3, 2, (((0, 1), 8, 0, 0), ((3, 4), 6, 1, 1), ((2, 3), 6, 0, 0)), (4, 3))


class CheckTest(LoomTest):
    def test_cell_nets(self):
        for cells in (CELLS_T, CELLS, (2, 0, (), ()), (6, 10**30, (((10**30 - 1,), 3, 0, 1),), (10**30,))):
            self.assertIsNone(check_cells(cells))
        dice = random.Random(1)
        for _ in range(100):
            self.assertIsNone(check_cells(random_cells(dice, dice.randint(2, 6), dice.randint(0, 4), dice.randint(0, 9), 3)))

    def test_each_path(self):
        for value in [*LOOSE, list(CELLS), CELLS[:3], (*CELLS, ()), deep(CELLS, 30)]:
            self.fails(BadNet, {"path": ()}, check_cells, value)
        for part in (1, 7, True, None, "2", 10**39, -1):
            self.fails(BadNet, {"path": (0,)}, check_cells, replaced(CELLS, (0,), part))
        for part in (-1, True, None, "1", ()):
            self.fails(BadNet, {"path": (1,)}, check_cells, replaced(CELLS, (1,), part))
        for k in (2, 3):
            for part in ([], None, 3, "a", list(CELLS[k])):
                self.fails(BadNet, {"path": (k,)}, check_cells, replaced(CELLS, (k,), part))
        for part in [(), ((0, 1), 8, 0), ((0, 1), 8, 0, 0, 0), [(0, 1), 8, 0, 0], None, 8]:
            self.fails(BadNet, {"path": (2, 0)}, check_cells, replaced(CELLS, (2, 0), part))
        for part in [[0, 1], None, 1, (0, 1, 3, 3), (None,) * 4]:
            self.fails(BadNet, {"path": (2, 0, 0)}, check_cells, replaced(CELLS, (2, 0, 0), part))
        for part in (-1, 5, True, None, "1", (1,), 10**39, 0, 2, 4):
            self.fails(BadNet, {"path": (2, 0, 0, 1)}, check_cells, replaced(CELLS, (2, 0, 0, 1), part))
        for part in (-1, 16, True, None, "1", (1,), 10**39):
            self.fails(BadNet, {"path": (2, 0, 1)}, check_cells, replaced(CELLS, (2, 0, 1), part))
        for part in (-1, 2, True, False, None, "1", (1,)):
            self.fails(BadNet, {"path": (2, 0, 2)}, check_cells, replaced(CELLS, (2, 0, 2), part))
            self.fails(BadNet, {"path": (2, 0, 3)}, check_cells, replaced(CELLS, (2, 0, 3), part))
        for part in (-1, 0, 1, 5, True, None, "3", (3,), 10**39):
            self.fails(BadNet, {"path": (3, 1)}, check_cells, replaced(CELLS, (3, 1), part))

    def test_which_signals_may_be_inputs(self):
        # Cell 0 without a register: in bits and cell 1, which has one; not itself, and not cell 2 behind it.
        for signal, is_right in [(0, True), (1, False), (2, False), (3, True), (4, False)]:
            value = replaced(CELLS, (2, 0, 0), (1, signal))
            if is_right:
                self.assertIsNone(check_cells(value))
            else:
                self.fails(BadNet, {"path": (2, 0, 0, 1)}, check_cells, value)
        # With a register it may take any, also itself.
        for signal in (0, 2, 3, 4):
            self.assertIsNone(check_cells(replaced(replaced(CELLS, (2, 0, 0), (1, signal)), (2, 0, 2), 1)))
        # A cell that is wrong is counted, but not as one with a register, unless its used is the number 1.
        for wrong in [None, (1, 2, 1), ((), 0, True, 0), ((), 0, 2, 0), [(), 0, 1, 0]]:
            value = replaced(replaced(CELLS, (2, 0, 0), (1, 3)), (2, 1), wrong)
            self.fails(BadNet, {"path": (2, 0, 0, 1)}, check_cells, value)
        value = replaced(replaced(CELLS, (2, 0, 0), (1, 3)), (2, 1), (None, None, 1, None))
        self.fails(BadNet, {"path": (2, 1, 0)}, check_cells, value)
        # A register counts by its own used, even before this is looked at.
        self.fails(BadNet, {"path": (2, 0, 0, 0)}, check_cells, (2, 0, (((0,), 0, 2, 0),), ()))
        self.fails(BadNet, {"path": (2, 0, 0, 0)}, check_cells, (2, 0, (((0,), 0, True, 0),), ()))

    def test_edges_of_truths(self):
        for many in range(7):
            inputs = tuple(range(many))
            self.assertIsNone(check_cells((6, 6, ((inputs, 2 ** 2**many - 1, 0, 0),), ())))
            self.fails(BadNet, {"path": (2, 0, 1)}, check_cells, (6, 6, ((inputs, 2 ** 2**many, 0, 0),), ()))

    def test_the_first_of_two(self):
        order = [((0,), 1), ((1,), -1), ((2, 0, 0, 0), 9), ((2, 0, 1), 16), ((2, 0, 2), 2), ((2, 0, 3), 2), ((2, 1, 0), None),
                 ((2, 2), None), ((3, 0), 0), ((3, 1), 9)]
        for j, (one, wrong) in enumerate(order):
            for other, also in order[j + 1:]:
                self.fails(BadNet, {"path": one}, check_cells, replaced(replaced(CELLS, other, also), one, wrong))


class RunTest(LoomTest):
    def test_examples(self):
        self.assertEqual(self.is_new(cell_outputs, CELLS_T, [(1,), (1,), (0,), (1,)]), [(0,), (1,), (0,), (0,)])
        self.assertEqual(cell_outputs(CELLS_T, ((1,), (1,))), [(0,), (1,)])
        self.assertEqual(cell_outputs((2, 0, (), ()), [(), ()]), [(), ()])
        self.assertEqual(cell_outputs(CELLS, []), [])
        self.assertEqual((self.is_new(wanted, CELLS_T), wanted(CELLS), wanted((2, 3, (), ()))), ([0, 1], [0, 1, 2, 3, 4], []))
        self.assertEqual(wanted((2, 3, (((1,), 2, 0, 0), ((), 0, 0, 0)), (4,))), [1, 4])

    def test_registers_step_at_once(self):
        cells = (2, 0, (((1,), 2, 1, 1), ((0,), 2, 1, 0)), (0, 1))
        self.assertEqual(cell_outputs(cells, [()] * 3), [(1, 0), (0, 1), (1, 0)])
        # A start counts for nothing without a register.
        self.assertEqual(cell_outputs((2, 0, (((), 0, 0, 1),), (0,)), [()]), [(0,)])

    def test_by_chance(self):
        dice = random.Random(2)
        for _ in range(200):
            many = dice.randint(0, 4)
            cells = random_cells(dice, dice.randint(2, 6), many, dice.randint(0, 9), 3)
            lots = random_lots(dice, [1] * many, 8)
            self.assertEqual(cell_outputs(cells, lots), cell_runs(cells, lots))
            self.assertEqual(wanted(cells), model_wanted(cells))


class PackTest(LoomTest):
    def is_packed(self, dice, net):
        """The cell net of a table net is as told; returns it."""
        cells = self.is_new(cells_of, net)
        self.assertIsNone(check_cells(cells))
        self.assertEqual((cells[0], cells[1], len(cells[3])), (net[0], net[1], len(net[4])))
        most = len(net[3]) + len(net[2]) + len(net[4])
        self.assertLessEqual(len(cells[2]), most)
        self.assertLessEqual(len(wanted(cells)), most + net[1])
        lots = random_lots(dice, [1] * net[1], 12)
        self.assertEqual(cell_runs(cells, lots), net_runs(net, lots))
        return cells

    def test_by_hand(self):
        dice = random.Random(3)
        # A table that a register alone takes needs no cell; a register may take an in bit, another one, and nought.
        cells = self.is_packed(dice, (2, 2, ((0, 4),), (((1, 2), 6),), (3,)))
        self.assertEqual(cells, (2, 2, (((0, 1), 6, 1, 0),), (2,)))
        cells = self.is_packed(dice, (2, 1, ((1, 1), (0, 2), (1, 0)), (), (2, 3, 4)))
        self.assertEqual(cells, (2, 1, (((0,), 2, 1, 1), ((1,), 2, 1, 0), ((), 0, 1, 1)), (1, 2, 3)))
        self.assertEqual(len(self.is_packed(dice, (2, 2, ((0, 4),), (((1, 2), 6),), (3, 4)))[2]), 2)
        # Outs that are in bits go through cells, and those that are nought are cells without inputs.
        self.assertEqual(self.is_packed(dice, (2, 2, (), (), (2, 0)))[2][-1][1:], (0, 0, 0))
        self.assertEqual(len(self.is_packed(dice, (2, 2, (), (), (2, 0, 2, 0, 0)))[2]), 2)
        # Node 0 is taken out of truths; tables that nothing wants need no cell.
        self.assertEqual(self.is_packed(dice, (2, 1, (), (((0, 1), 6), ((1, 0), 6), ((1,), 1)), (2, 3)))[2],
                         (((0,), 2, 0, 0), ((0,), 2, 0, 0)))
        self.assertEqual(self.is_packed(dice, (2, 1, (), (((0, 1), 4),), (2,)))[2], (((0,), 2, 0, 0),))
        self.assertEqual(self.is_packed(dice, (2, 1, (), (((1,), 1),), ()))[2], ())

    def test_by_chance(self):
        dice = random.Random(4)
        for _ in range(400):
            k = dice.randint(2, 6)
            net = random_net(dice, k, dice.randint(0, 3), dice.randint(0, 3), dice.randint(0, 10), dice.randint(0, 4))
            self.is_packed(dice, net)


if __name__ == "__main__":
    unittest.main()
