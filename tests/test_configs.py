"""Configs ([S8.1] to [S8.4])."""

import random
import unittest

from graphmodels import CELLS_T, FABRIC_F, cell_runs
from layermodels import (
    CONFIG_C, LAID_T, TILE_A, TILE_B, config_runs, config_things, is_still, model_config_fault, plain_menu, random_config,
    sources_of_thing, spoilt,
)
from samples import random_lots, replaced
from support import LOOSE, LoomTest, deep
from test_laid import many_laid

from bitloom.configs import (
    check_config, config_of, empty_config, judge_ring, menu_of_input, menu_of_out, menu_of_wire, ring_of,
)
from bitloom.errors import BadConfig
from bitloom.fabric import is_border, neighbour, tiles_of

WIDE = (3, 3, 2, 2, 2)


def random_small_fabric(dice):
    """A small fabric."""
    return dice.randint(1, 3), dice.randint(1, 3), dice.randint(1, 2), dice.randint(2, 3), dice.randint(1, 2)


class MenuTest(LoomTest):
    def test_examples(self):
        self.assertEqual(self.is_new(menu_of_input, FABRIC_F, 0, 0), [None, ("cell",), ("wire", 0, 0), ("pad", 0)])
        self.assertEqual(self.is_new(menu_of_wire, FABRIC_F, 0, 0, 0, 0), [None, ("cell",), ("wire", 0, 0), ("pad", 0)])
        self.assertEqual(self.is_new(menu_of_out, FABRIC_F, 1, 0), [None, ("cell",), ("wire", 2, 0)])
        every = [None, ("cell",)] + [("wire", s, t) for s in range(4) for t in range(2)]
        self.assertEqual(menu_of_input(WIDE, 1, 1), every)
        self.assertEqual(menu_of_wire(WIDE, 1, 1, 3, 1), every[:2] + [("wire", s, 1) for s in range(4)])
        corner = [None, ("cell",), ("wire", 0, 1), ("wire", 1, 1), ("pad", 0), ("pad", 1)]
        self.assertEqual(menu_of_wire(WIDE, 0, 0, 1, 1), corner)

    def test_by_chance(self):
        dice = random.Random(1)
        for _ in range(40):
            fabric = (dice.randint(1, 4), dice.randint(1, 4), dice.randint(1, 3), 2, dice.randint(1, 3))
            for x, y in tiles_of(fabric):
                self.assertEqual(menu_of_input(fabric, x, y), plain_menu(fabric, x, y, "input"))
                if is_border(fabric, x, y):
                    self.assertEqual(menu_of_out(fabric, x, y), plain_menu(fabric, x, y, "out"))
                for side in range(4):
                    if neighbour(fabric, x, y, side):
                        track = dice.randrange(fabric[2])
                        self.assertEqual(menu_of_wire(fabric, x, y, side, track), plain_menu(fabric, x, y, "wire", track))


class CheckTest(LoomTest):
    def refused(self, value, path):
        self.fails(BadConfig, {"path": path}, check_config, value)
        self.assertEqual(model_config_fault(value), path)

    def test_right(self):
        self.assertIsNone(check_config(CONFIG_C))
        dice = random.Random(2)
        for _ in range(60):
            fabric = random_small_fabric(dice)
            self.assertIsNone(check_config(random_config(dice, fabric)))
            self.assertIsNone(check_config(self.is_new(empty_config, fabric)))
        empty = empty_config(WIDE)
        self.assertEqual(empty[:3], (WIDE, (), ()))
        self.assertEqual(empty[3][4], (0, 0, 0, (None, None), ((None, None),) * 4, ()))
        self.assertEqual(empty[3][2], (0, 0, 0, (None, None), ((), (None, None), (None, None), ()), (None, None)))

    def test_each_path(self):
        for value in [*LOOSE, list(CONFIG_C), CONFIG_C[:3], (*CONFIG_C, ()), deep(CONFIG_C, 40)]:
            self.refused(value, ())
        for part in [None, (), (2, 1, 1, 2), (0, 1, 1, 2, 1), (2, 1, 61, 2, 1), (2, True, 1, 2, 1), [2, 1, 1, 2, 1]]:
            self.refused(replaced(CONFIG_C, (0,), part), (0,))
        for part in [None, [], 1, "a", {}]:
            self.refused(replaced(CONFIG_C, (1,), part), (1,))
            self.refused(replaced(CONFIG_C, (2,), part), (2,))
            self.refused(replaced(CONFIG_C, (3,), part), (3,))
        for part in [None, (), (0, 0), (2, 0, 0), (0, 1, 0), (0, 0, 1), (-1, 0, 0), (0, 0, False), [0, 0, 0], (0, 0, "0")]:
            self.refused(replaced(CONFIG_C, (1, 1), part), (1, 1))
            self.refused(replaced(CONFIG_C, (2, 0), part), (2, 0))
        self.refused(replaced(CONFIG_C, (1, 1), (0, 0, 0)), (1, 1))
        self.refused(replaced(CONFIG_C, (2,), ((1, 0, 0), (0, 0, 0), (1, 0, 0))), (2, 2))
        self.refused(replaced(CONFIG_C, (3,), (TILE_A,)), (3,))
        self.refused(replaced(CONFIG_C, (3,), (TILE_A, TILE_B, TILE_B)), (3,))
        for part in [None, (), TILE_B[:5], (*TILE_B, 0), list(TILE_B)]:
            self.refused(replaced(CONFIG_C, (3, 1), part), (3, 1))
        for k, wrong in [(0, 16), (1, 2), (2, 2)]:
            for part in (wrong, -1, True, None, "0", (0,), 10**39):
                self.refused(replaced(CONFIG_C, (3, 1, k), part), (3, 1, k))
        for path, wrong in [((3,), ((None,), (None,) * 3)), ((4,), ((), ((),) * 3, ((),) * 5)), ((4, 0), ((None,),)),
                            ((4, 2), ((), (None, None))), ((5,), ((), (None, None)))]:
            for part in (None, [], 0, *wrong):
                self.refused(replaced(CONFIG_C, (3, 1, *path), part), (3, 1, *path))
        wrong = [(), ("cell", 0), ("wire", 0, 0), ("wire", 2, 1), ("wire", 2), ("pad",), ("pad", 1), ("pad", -1), ["cell"], "cell",
                 ("wire", 2, False), ("pad", False), 0, False, ("tile",), (None,), ([],)]
        for path in [(3, 0), (3, 1), (4, 2, 0), (5, 0)]:
            for part in wrong:
                self.refused(replaced(CONFIG_C, (3, 1, *path), part), (3, 1, *path))
        self.refused(replaced(CONFIG_C, (3, 1, 5, 0), ("pad", 0)), (3, 1, 5, 0))
        # A wire keeps its track, an input takes any.
        wide = empty_config(WIDE)
        self.refused(replaced(wide, (3, 4, 4, 1, 0), ("wire", 1, 1)), (3, 4, 4, 1, 0))
        self.assertIsNone(check_config(replaced(wide, (3, 4, 4, 1, 1), ("wire", 1, 1))))
        self.assertIsNone(check_config(replaced(wide, (3, 4, 3, 0), ("wire", 1, 1))))

    def test_spoilt_by_chance(self):
        dice = random.Random(3)
        paths = set()
        for _ in range(1500):
            config = random_config(dice, random_small_fabric(dice))
            value = spoilt(dice, config, dice.choice([1, 1, 2, 3]))
            path = model_config_fault(value)
            paths.add(path and (path[0], *path[2:3]))
            if path is None:
                self.assertIsNone(check_config(value))
            else:
                self.fails(BadConfig, {"path": path}, check_config, value)
        self.assertLessEqual({None, (), (0,), (1,), (2,), (3,), *((3, k) for k in range(6))}, paths)


class RingTest(LoomTest):
    def test_by_hand(self):
        self.assertIsNone(ring_of(CONFIG_C))
        self.assertEqual(judge_ring(CONFIG_C, (("cell", 0, 0),)), ("step", 0))
        # A cell that takes itself; with a register it may.
        own = replaced(CONFIG_C, (3, 0, 3, 0), ("cell",))
        self.assertEqual(ring_of(own), (("cell", 0, 0),))
        self.assertIsNone(judge_ring(own, (("cell", 0, 0),)))
        self.assertIsNone(ring_of(replaced(own, (3, 0, 1), 1)))
        # Two wires that take each other, whatever takes them.
        there = replaced(replaced(CONFIG_C, (3, 0, 4, 0, 0), ("wire", 0, 0)), (3, 1, 4, 2, 0), ("wire", 2, 0))
        ring = (("wire", 0, 0, 0, 0), ("wire", 1, 0, 2, 0))
        self.assertEqual(set(ring_of(there)), set(ring))
        self.assertIsNone(judge_ring(there, ring))
        self.assertIsNone(judge_ring(there, ring[::-1]))
        self.assertEqual(judge_ring(there, ring[:1]), ("step", 0))
        self.assertEqual(judge_ring(there, (*ring, ("cell", 0, 0))), ("step", 1))
        self.assertEqual(judge_ring(CONFIG_C, ring), ("step", 0))
        # A ring through a cell by an input on which its truth does not hang.
        through = replaced(replaced(CONFIG_C, (3, 0, 0), 0), (3, 0, 3, 1), ("wire", 0, 0))
        through = replaced(replaced(through, (3, 1, 1), 0), (3, 1, 4, 2, 0), ("cell",))
        self.assertEqual(len(ring_of(through)), 4)
        self.assertIsNone(judge_ring(through, ring_of(through)))

    def test_form(self):
        there = replaced(replaced(CONFIG_C, (3, 0, 4, 0, 0), ("wire", 0, 0)), (3, 1, 4, 2, 0), ("wire", 2, 0))
        ring = (("wire", 0, 0, 0, 0), ("wire", 1, 0, 2, 0))
        for value in [*LOOSE, list(ring), (*ring, ring[0]), (*ring, None), (list(ring[0]), ring[1]), deep(ring, 39)]:
            self.assertEqual(judge_ring(there, value), ("form",))
        for thing in [("cell", 1, 0), ("cell", 2, 0), ("cell", 0, 1), ("cell", 0), ("cell", 0, 0, 0), ("wire", 0, 0, 0, 1), ("tile", 0, 0),
                      ("wire", 0, 0, 2, 0), ("wire", 0, 0, 0), ("cell", False, 0), ("wire", 0, 0, 0, False), (), ("cell", "0", 0), ([],)]:
            self.assertEqual(judge_ring(there, (*ring, thing)), ("form",))

    def test_by_chance(self):
        dice = random.Random(4)
        found = [0, 0]
        for _ in range(300):
            config = random_config(dice, random_small_fabric(dice), dice.choice([1, 1, 2, 4]))
            ring = self.is_new(ring_of, config)
            found[ring is None] += 1
            self.assertEqual(ring is None, is_still(config))
            if ring is None:
                continue
            self.assertEqual(len(set(ring)), len(ring))
            for k, thing in enumerate(ring):
                self.assertIn(ring[(k + 1) % len(ring)], sources_of_thing(config, thing))
            self.assertIsNone(judge_ring(config, ring))
            value = spoilt(dice, ring)
            things = config_things(config)
            is_form = type(value) is not tuple or not value or not all(
                type(part) is tuple and part and type(part[0]) is str and all(type(n) is int for n in part[1:]) and part in things
                for part in value
            ) or len(set(value)) < len(value)
            steps = [] if is_form else [
                n for n, part in enumerate(value) if value[(n + 1) % len(value)] not in sources_of_thing(config, part)
            ]
            told = ("form",) if is_form else ("step", steps[0]) if steps else None
            self.assertEqual(judge_ring(config, value), told)
        self.assertGreater(min(found), 50)


class ConfigOfTest(LoomTest):
    def test_example(self):
        config = config_of(FABRIC_F, CELLS_T, LAID_T)
        tiles = ((6, 1, 0, (("wire", 0, 0), ("cell",)), ((("cell",),), (), (), ()), (None,)),
                 (0, 0, 0, (None, None), ((), (), (("pad", 0),), ()), (("wire", 2, 0),)))
        self.assertEqual(config, (FABRIC_F, ((1, 0, 0),), ((1, 0, 0),), tiles))

    def test_truths_of_fewer_inputs(self):
        for many, truth, told in [(0, 1, 255), (0, 0, 0), (1, 2, 0xAA), (1, 1, 0x55), (2, 6, 0x66), (3, 0x96, 0x96)]:
            inputs = tuple(range(many))
            laid = (((0, 0),), tuple((0, 0, p) for p in range(3)), (), (), (tuple(("pad", p) for p in inputs),))
            config = config_of((1, 1, 1, 3, 3), (3, 3, ((inputs, truth, 0, 1),), ()), laid)
            self.assertEqual(config[3][0][:4], (told, 0, 1, tuple([("pad", p) for p in inputs] + [None] * (3 - many))))

    def test_by_chance(self):
        dice = random.Random(5)
        for fabric, cells, laid in many_laid(11, 120):
            config = config_of(fabric, cells, laid)
            self.assertIsNone(check_config(config))
            self.assertTrue(is_still(config))
            lots = random_lots(dice, [1] * cells[1], 7)
            self.assertEqual([outs for outs, _ in config_runs(config, lots)], cell_runs(cells, lots))
            self.assertEqual(config[1:3], (laid[1], tuple(out[:3] for out in laid[2])))
            for wire, source in laid[3]:
                x, y, side, track = wire
                self.assertEqual(config[3][y * fabric[0] + x][4][side][track], source)
            taken = sum(source is not None for tile in config[3] for row in (*tile[4], tile[3], tile[5]) for source in row)
            self.assertEqual(taken, len(laid[3]) + len(laid[2]) + sum(len(part) for part in laid[4]))


if __name__ == "__main__":
    unittest.main()
