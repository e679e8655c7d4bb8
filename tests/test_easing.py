"""Graphs eased and levelled ([S4.8])."""

import random
import unittest

from graphmodels import are_alike, runs, starts
from models import T
from samples import random_graph, random_lots
from support import LoomTest

from bitloom.easing import eased, levelled
from bitloom.graphs import check_graph, depth, has_one_names


class EasingTest(LoomTest):
    def is_eased(self, one, late, is_small=True):
        """The late graph is eased by the one."""
        self.assertIsNone(check_graph(late))
        self.assertIs(has_one_names(late), True)
        self.assertEqual((late[0], starts(late), len(late[3])), (one[0], starts(one), len(one[3])))
        self.assertLessEqual(len(late[2]), len(one[2]))
        self.assertLessEqual(depth(late), depth(one))
        if is_small:
            self.assertTrue(are_alike(one, late))

    def test_small_and_odd_ones(self):
        for graph in [T, (0, (), (), ()), (0, (), (), (1, 0)), (2, (), (), (2, 5)), (0, ((1, 3), (0, 1)), (), ()),
                      (1, ((0, 4), (1, 3)), ((2, 4), (8, 8), (8, 9)), (10, 13))]:
            self.is_eased(graph, self.is_new(eased, graph))
            self.is_eased(eased(graph), self.is_new(levelled, graph))

    def test_lesser_things(self):
        # Node 3 is 1 and 2; node 4 is what is told.
        for pair, literal, many in [
            ((2, 6), 6, 1), ((3, 6), 0, 0), ((2, 7), None, 1), ((3, 7), 3, 0), ((4, 6), 6, 1), ((5, 6), 0, 0),
            ((4, 7), None, 1), ((5, 7), 5, 0),
        ]:
            late = eased((2, (), ((2, 4), pair), (8,)))
            self.assertEqual(len(late[2]), many, pair)
            if literal is not None:
                self.assertEqual(late[3], (literal,), pair)
        self.assertEqual(eased((2, (), ((2, 4), (2, 7)), (8,)))[2], ((2, 5),))
        # Two ands with a literal, and with this turned.
        self.assertEqual(eased((3, (), ((2, 4), (3, 6), (8, 10)), (12,))), (3, (), (), (0,)))

    def test_registers_stay_that_are_not_needed(self):
        graph = (1, ((1, 6), (0, 3)), ((2, 4),), (2,))
        self.assertEqual(len(eased(graph)[1]), 2)
        self.assertEqual(starts(levelled(graph)), (1, 0))

    def test_chains_become_less_deep(self):
        ands = [(2, 4)] + [(2 * (k + 2), 2 * (k + 16)) for k in range(1, 15)]
        graph = (16, (), tuple(ands), (2 * 31,))
        self.assertIsNone(check_graph(graph))
        self.assertEqual((depth(graph), depth(eased(graph)), depth(levelled(graph))), (15, 15, 4))
        self.is_eased(graph, levelled(graph), False)
        lots = random_lots(random.Random(1), [1] * 16, 30) + [(1,) * 16]
        self.assertEqual(runs(graph, lots), runs(levelled(graph), lots))

    def test_by_chance(self):
        dice = random.Random(2)
        for _ in range(400):
            graph = random_graph(dice, dice.randint(0, 2), dice.randint(0, 3), dice.randint(0, 25), dice.randint(0, 3))
            late = self.is_new(eased, graph)
            self.is_eased(graph, late)
            self.is_eased(late, self.is_new(levelled, graph))
            self.assertIs(has_one_names(levelled(late)), True)

    def test_wider_ones_by_chance(self):
        dice = random.Random(3)
        for _ in range(60):
            graph = random_graph(dice, 6, 3, 60, 5)
            late = eased(graph)
            self.is_eased(graph, late, False)
            self.is_eased(late, levelled(graph), False)
            lots = random_lots(dice, [1] * 6, 40)
            self.assertEqual(runs(graph, lots), runs(late, lots))
            self.assertEqual(runs(graph, lots), runs(levelled(graph), lots))

    def test_great_ones(self):
        dice = random.Random(4)
        graph = random_graph(dice, 20, 20, 4000, 20)
        lots = random_lots(dice, [1] * 20, 3)
        self.assertEqual(runs(graph, lots), runs(levelled(graph), lots))
        deep = (1, (), tuple([(2, 3)] + [(2, 2 * k + 3) for k in range(1, 4000)]), (8003,))
        # Each node of it is nought or the in bit, one after the other.
        self.assertEqual(eased(deep), (1, (), (), (3,)))
        self.assertEqual(levelled(deep), (1, (), (), (3,)))


if __name__ == "__main__":
    unittest.main()
