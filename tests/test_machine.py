"""Machines ([S8.3], [S8.4], [S8.7])."""

import random
import unittest

from graphmodels import cell_runs
from layermodels import CONFIG_C, config_runs, is_still, random_config, sources_of_thing
from samples import random_lots, replaced
from support import LoomTest
from test_configs import random_small_fabric
from test_laid import many_laid

from bitloom.bits import config_bits
from bitloom.configs import config_of, empty_config
from bitloom.errors import BadBits, NotStill
from bitloom.machine import Machine, read_back, run

# The cell of the second tile takes its in pad and what the first one has, a constant of its own in pad, and a register.
RING = replaced(CONFIG_C, (3, 0, 3, 0), ("cell",))


def still_configs(seed, many):
    """Many still configs by chance."""
    dice = random.Random(seed)
    found = []
    while len(found) < many:
        config = random_config(dice, random_small_fabric(dice), dice.choice([1, 2]))
        if is_still(config):
            found.append(config)
    return found


class MachineTest(LoomTest):
    def test_example(self):
        lots = [(0, 1), (1, 1), (1, 0), (1, 1)]
        # The first tile tells its own in bit; the second one keeps whether both in bits were 1, at first 1.
        self.assertEqual(self.is_new(run, CONFIG_C, lots), [(1,), (0,), (1,), (0,)])
        self.assertEqual(run(CONFIG_C, []), [])
        machine = Machine(CONFIG_C)
        self.assertEqual(machine.config(), CONFIG_C)
        self.assertEqual((machine.registers(), machine.step((0, 1)), machine.registers()), ((0, 1), (1,), (0, 0)))

    def test_rings_are_refused(self):
        for call in (Machine, lambda config: run(config, []), lambda config: read_back(config_bits(config))):
            with self.assertRaises(NotStill) as caught:
                call(RING)
            self.assertEqual(tuple(caught.exception.things), (("cell", 0, 0),))
        # A ring of wires that nothing takes is one, too.
        there = replaced(replaced(CONFIG_C, (3, 0, 4, 0, 0), ("wire", 0, 0)), (3, 1, 4, 2, 0), ("wire", 2, 0))
        with self.assertRaises(NotStill) as caught:
            Machine(there)
        ring = caught.exception.things
        for k, thing in enumerate(ring):
            self.assertIn(ring[(k + 1) % len(ring)], sources_of_thing(there, thing))

    def test_read_back(self):
        machine = read_back(config_bits(CONFIG_C))
        self.assertEqual(machine.config(), CONFIG_C)
        self.assertEqual(machine.step((1, 1)), (1,))
        self.fails(BadBits, {"place": 0}, read_back, ())

    def test_nothing_stands_for_nought(self):
        config = replaced(empty_config((2, 1, 1, 2, 1)), (2,), ((0, 0, 0), (1, 0, 0)))
        config = replaced(config, (3, 0, 5, 0), ("wire", 0, 0))
        self.assertEqual(run(config, [()]), [(0, 0)])
        # Pads that are those of no in bit have 0; a truth may tell 1 for that.
        config = replaced(replaced(config, (3, 1, 4, 2, 0), ("cell",)), (3, 1, 0), 1)
        config = replaced(config, (3, 1, 3, 0), ("pad", 0))
        self.assertEqual(run(config, [()]), [(1, 0)])
        self.assertEqual(run(replaced(config, (1,), ((1, 0, 0),)), [(1,), (0,)]), [(0, 0), (1, 0)])

    def test_by_chance(self):
        dice = random.Random(1)
        for config in still_configs(2, 150):
            lots = random_lots(dice, [1] * len(config[1]), 8)
            told = config_runs(config, lots)
            self.assertEqual(run(config, lots), [outs for outs, _ in told])
            machine = Machine(config)
            for lot, (outs, registers) in zip(lots, told):
                self.assertEqual(machine.registers(), registers)
                twin = machine.twin()
                self.assertEqual(machine.step(lot), outs)
                # A twin stands as the other one did, and goes its own way.
                self.assertEqual(twin.registers(), registers)
                self.assertEqual(twin.config(), config)
                self.assertEqual(twin.step(lot), outs)
            twin.restart()
            self.assertEqual(twin.registers(), told[0][1])
            self.assertIsNone(machine.restart())
            self.assertEqual([machine.step(lot) for lot in lots], [outs for outs, _ in told])
            self.assertEqual([twin.step(lot) for lot in lots], [outs for outs, _ in told])

    def test_what_is_laid_is_in_its_bits(self):
        dice = random.Random(3)
        for fabric, cells, laid in many_laid(21, 80):
            machine = read_back(config_bits(config_of(fabric, cells, laid)))
            lots = random_lots(dice, [1] * cells[1], 8)
            self.assertEqual([machine.step(lot) for lot in lots], cell_runs(cells, lots))

    def test_a_long_run(self):
        config = empty_config((10, 10, 10, 6, 1))
        # All cells are turned about at each clock.
        for n in range(100):
            config = replaced(config, (3, n, 0), 2**64 // 3)
            config = replaced(config, (3, n, 1), 1)
            config = replaced(config, (3, n, 3, 0), ("cell",))
        config = replaced(replaced(config, (2,), ((0, 0, 0),)), (3, 0, 5, 0), ("cell",))
        self.assertEqual(run(config, [()] * 2000), [(0,), (1,)] * 1000)


if __name__ == "__main__":
    unittest.main()
