"""The chain ([S10.1], [S10.2])."""

import itertools
import random
import unittest

from clausemodels import HOLDING_G
from graphmodels import are_alike, runs
from models import C, C_FLAT
from samples import TEXTS, design_of, random_graph, random_lots, replaced, small_flats
from support import LoomTest

from bitloom.bits import config_bits
from bitloom.blasting import graph_of, in_widths, out_widths, size_bound
from bitloom.cells import check_cells
from bitloom.chain import STEP_WORDS, flat_room, graph_room, is_enough, made, stepped
from bitloom.clocks import outputs
from bitloom.configs import config_of
from bitloom.easing import eased, levelled
from bitloom.errors import BadDesign, BadRing, NoRoom
from bitloom.fabric import fabric_for
from bitloom.graphrun import graph_outputs
from bitloom.graphs import cut_graph, has_one_names
from bitloom.labels import least_depth
from bitloom.laid import check_laid
from bitloom.machine import read_back
from bitloom.making import made_anew
from bitloom.merging import merged
from bitloom.moving import moved_least
from bitloom.nets import is_tight, net_depth, run_net
from bitloom.properties import holds
from bitloom.texts import read_design
from bitloom.unrolling import flat_of
from bitloom.values import bit_lot, value_lot

SMALL_C = replaced(C, (1, 1, 0), ("number", 3))
FABRIC = (5, 5, 30, 4, 2)


class SteppedTest(LoomTest):
    def test_words(self):
        self.assertEqual(STEP_WORDS, ("merged", "eased", "levelled", "moved"))

    def test_by_hand(self):
        self.assertEqual(stepped(HOLDING_G, ()), (cut_graph(HOLDING_G), 0))
        # A register that is always 0 is told so.
        graph, shift = stepped(HOLDING_G, ("merged",))
        self.assertEqual((graph[1], graph[2], graph[3], shift), ((), (), (1, 1), 0))
        # Three and nodes in a row between in bits and a register: moved by one clock.
        graph = (2, ((1, 12),), ((2, 4), (4, 9), (2, 10)), (6,))
        self.assertEqual(stepped(graph, ("moved",))[1], moved_least(graph)[1])
        self.assertEqual(stepped(graph, ("moved", "moved"))[1], moved_least(graph)[1] + moved_least(moved_least(graph)[0])[1])
        self.assertGreater(stepped(graph, ("moved",))[1], 0)
        for word, call in (("merged", merged), ("eased", eased), ("levelled", levelled)):
            self.assertEqual(stepped(graph, (word,)), (cut_graph(made_anew(call(graph), {})), 0))
        self.assertEqual(stepped(graph, ("moved",))[0], cut_graph(moved_least(graph)[0]))
        # And nodes with two names are made anew without any step.
        self.assertEqual(stepped((2, (), ((4, 2), (2, 4), (6, 9)), (10,)), ()), ((2, (), (), (0,)), 0))

    def test_by_chance(self):
        dice = random.Random(1)
        shifts = set()
        for _ in range(150):
            given = cut_graph(random_graph(dice, dice.randint(0, 3), dice.randint(0, 4), dice.randint(0, 12), dice.randint(1, 3)))
            steps = tuple(dice.choice(STEP_WORDS) for _ in range(dice.randint(0, 4)))
            graph, shift = self.is_new(stepped, given, steps)
            shifts.add(shift)
            self.assertTrue(has_one_names(graph))
            self.assertEqual(cut_graph(graph), graph)
            lots = random_lots(dice, [1] * given[0], 12)
            noughts = [(0,) * given[0]] * shift
            self.assertEqual(runs(graph, lots), runs(given, noughts + lots)[shift:])
            if "moved" not in steps:
                self.assertEqual(shift, 0)
                self.assertTrue(are_alike(given, graph))
                self.assertLessEqual(len(graph[2]), len(given[2]))
            if steps == ("merged",):
                self.assertLessEqual(len(graph[1]), len(merged(given)[1]))
        self.assertGreater(len(shifts), 1)


class MadeTest(LoomTest):
    def is_made(self, design, steps, fabric, dice):
        """All that is made is right, and tells what the design does; returns the shift."""
        told = made(design, steps, fabric)
        self.assertEqual(made(design, steps, fabric), told)
        flat, graph, shift, net, cells, laid, bits = told
        self.assertEqual(flat, flat_of(design))
        self.assertEqual((graph, shift), stepped(cut_graph(graph_of(flat)), steps))
        self.assertTrue(is_tight(net))
        self.assertLessEqual(net_depth(net), least_depth(graph, fabric[3]))
        self.assertIsNone(check_cells(cells))
        self.assertIsNone(check_laid(fabric, cells, laid))
        self.assertEqual(bits, config_bits(config_of(fabric, cells, laid)))
        ins, outs = in_widths(flat), out_widths(flat)
        lots = random_lots(dice, ins, 10)
        noughts = [(0,) * len(ins)] * shift
        machine = read_back(bits)
        late = [value_lot(outs, machine.step(bit_lot(ins, lot))) for lot in lots]
        self.assertEqual(late, outputs(flat, noughts + lots)[shift:])
        self.assertEqual(run_net(net, [bit_lot(ins, lot) for lot in lots]), graph_outputs(graph, [bit_lot(ins, lot) for lot in lots]))
        return shift

    def test_the_counter(self):
        dice = random.Random(1)
        for steps in [(), ("merged",), ("levelled", "moved"), STEP_WORDS * 2]:
            self.is_made(SMALL_C, steps, FABRIC, dice)
        self.assertEqual(made(C, (), (8, 8, 60, 6, 2))[0], C_FLAT)
        self.is_made(read_design(TEXTS[3]), ("eased",), FABRIC, dice)

    def test_what_stages_raise(self):
        self.fails(BadDesign, {"word": "module", "where": "", "path": (1, 0)}, made, replaced(C, (1, 0), "other"), (), FABRIC)
        ring = read_design("design { module m { out a bits 1; a = ~a; } top m; }")
        self.fails(BadRing, {"names": ("a",)}, made, ring, (), FABRIC)
        self.fails(NoRoom, {"word": "cells"}, made, C, (), (1, 1, 10, 4, 8))
        wide = read_design("design { module m { in a bits 9; out z bits 1; z = &a; } top m; }")
        self.fails(NoRoom, {"word": "ins"}, made, wide, (), (2, 2, 9, 6, 2))
        wide = read_design("design { module m { in a bits 1; out z bits 9; z = bits(9, 0); } top m; }")
        self.fails(NoRoom, {"word": "outs"}, made, wide, (), (3, 3, 9, 6, 1))

    def test_by_chance(self):
        dice = random.Random(2)
        many = 0
        for flat in small_flats(3, 40, 60):
            steps = tuple(dice.choice(STEP_WORDS) for _ in range(dice.randint(0, 4)))
            try:
                self.is_made(design_of(flat), steps, (7, 7, 40, dice.randint(2, 6), 2), dice)
                many += 1
            except NoRoom as error:
                self.assertIn(error.word, ("tracks", "cells"))
        self.assertGreater(many, 20)

    def test_behind_lots_of_noughts(self):
        dice = random.Random(3)
        text = "design { module m { in a bits 3; in b bits 3; out z bits 3; reg r bits 3 = 5 <- (a + b) ^ a * b; z = r; } top m; }"
        self.assertEqual(self.is_made(read_design(text), ("eased",), (7, 7, 40, 4, 2), dice), 0)
        self.assertGreater(self.is_made(read_design(text), ("moved",), (7, 7, 40, 4, 2), dice), 0)
        self.assertGreater(self.is_made(read_design(text), STEP_WORDS, (7, 7, 40, 6, 2), dice), 0)

    def test_what_holds_goes_on(self):
        design = read_design(
            "design { module m { in a bits 1; out z bits 2; reg r bits 2 = 0 <- a & (r < bits(2, 2)) ? r + bits(2, 1) : bits(2, 0); "
            "z = bits(1, 1) # ~&r; } top m; }"
        )
        for steps in ((), ("merged", "levelled"), ("moved",)):
            graph = cut_graph(graph_of(flat_of(design)))
            told = made(design, steps, (6, 6, 40, 4, 1))
            words = [holds(graph, out)[0] for out in range(2)]
            self.assertEqual(words, ["holds", "holds"])
            machine = read_back(told[6])
            for lots in itertools.product([(0,), (1,)], repeat=6):
                machine.restart()
                self.assertEqual([machine.step(lot) for lot in lots], [(1, 1)] * 6)


class RoomTest(LoomTest):
    def test_by_hand(self):
        self.assertEqual(graph_room(HOLDING_G), (1 + 2 * 3, 8, 2))
        self.assertEqual(graph_room((5, (), (), (1,))), (2, 7, 5))
        self.assertEqual(graph_room((1, ((0, 2), (1, 4), (0, 10)), ((2, 4),), (6, 6, 6, 7, 1))), (1 + 2 * 8, 18, 5))
        self.assertEqual(flat_room(C_FLAT), (size_bound(C_FLAT) + 2 * 16, size_bound(C_FLAT) + 33, 8))
        self.assertEqual(graph_room((0, (), (), ())), (0, 0, 0))

    def test_is_enough(self):
        for fabric, told in [((4, 4, 20, 2, 2), True), ((4, 3, 20, 2, 2), False), ((4, 4, 19, 2, 2), False), ((4, 4, 20, 2, 1), False), ((5, 3, 20, 2, 2), False), ((6, 3, 20, 2, 2), True),
                             ((16, 1, 20, 6, 1), False), ((16, 1, 20, 6, 2), True)]:
            self.assertIs(is_enough(fabric, (16, 20, 24)), told)
        self.assertIs(is_enough((4, 4, 60, 2, 1), (16, 60, 12)), True)
        self.assertIs(is_enough((4, 4, 60, 2, 1), (16, 60, 13)), False)
        dice = random.Random(3)
        for _ in range(50):
            room = (dice.randint(60, 200), dice.randint(0, 60), dice.randint(0, 60))
            self.assertTrue(is_enough(fabric_for(2, *room, room[2]), room))

    def test_it_is_made_where_there_is_enough(self):
        dice = random.Random(4)
        many = 0
        for flat in small_flats(5, 60, 40):
            steps = tuple(dice.choice(STEP_WORDS) for _ in range(dice.randint(0, 3)))
            graph, _ = stepped(cut_graph(graph_of(flat)), steps)
            for room in [graph_room(graph)] + ([] if "moved" in steps else [flat_room(flat)]):
                try:
                    fabric = fabric_for(dice.randint(2, 6), *room, room[2])
                except NoRoom:
                    continue
                many += 1
                self.assertTrue(is_enough(fabric, room))
                told = made(design_of(flat), steps, fabric)
                self.assertIsNone(check_laid(fabric, told[4], told[5]))
        self.assertGreater(many, 30)


if __name__ == "__main__":
    unittest.main()
