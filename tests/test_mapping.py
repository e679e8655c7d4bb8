"""Graphs mapped to nets of tables ([S6.5], [S6.9])."""

import random
import unittest

from graphmodels import TABLES_G, first_node, model_truth, net_runs, runs
from models import T
from samples import TEXTS, random_lots, random_named_graph
from support import LoomTest

from bitloom.blasting import graph_of
from bitloom.covers import cover, cover_depth, lean_cover
from bitloom.labels import least_depth
from bitloom.mapping import mapped, net_of
from bitloom.nets import check_net, is_tight, net_depth
from bitloom.texts import read_design
from bitloom.unrolling import flat_of


def model_net(graph, k, told):
    """The net of a cover, by S6.5."""
    first = first_node(graph)
    numbers = {literal: first + j for j, (literal, _) in enumerate(told)}

    def stands(literal):
        return literal // 2 if literal // 2 < first and literal % 2 == 0 else numbers[literal]

    tables = []
    for literal, nodes in told:
        truth = model_truth(graph, literal, nodes) if literal // 2 >= first else 1
        tables.append((tuple(stands(2 * node) for node in nodes), truth))
    regs = tuple((start, stands(literal)) for start, literal in graph[1])
    return k, graph[0], regs, tuple(tables), tuple(stands(literal) for literal in graph[3])


class MappingTest(LoomTest):
    def is_right(self, dice, graph, k, many=10):
        """The net of covers, and what is mapped, are as told."""
        lots = random_lots(dice, [1] * graph[0], many)
        least = least_depth(graph, k)
        for told in (cover(graph, k), lean_cover(graph, k, least + 1)):
            net = self.is_new(net_of, graph, k, told)
            self.assertIsNone(check_net(net))
            self.assertEqual(net, model_net(graph, k, told))
            self.assertEqual(net_depth(net), cover_depth(graph, told))
            self.assertEqual(net_runs(net, lots), runs(graph, lots))
        late = self.is_new(mapped, graph, k)
        self.assertIsNone(check_net(late))
        self.assertIs(is_tight(late), True)
        self.assertEqual((late[0], late[1], len(late[4])), (k, graph[0], len(graph[3])))
        self.assertEqual([start for start, _ in late[2]], [start for start, _ in graph[1]])
        self.assertLessEqual(net_depth(late), least)
        self.assertLessEqual(len(late[3]), len(graph[2]) + len(graph[1]) + len(graph[3]))
        self.assertEqual(net_runs(late, lots), runs(graph, lots))

    def test_example(self):
        told = ((3, (1,)), (10, (1, 2)), (12, (3, 4)), (14, (5, 6)), (15, (5, 6)))
        net = (2, 4, (), (((1,), 1), ((1, 2), 8), ((3, 4), 2), ((6, 7), 2), ((6, 7), 13)), (8, 9, 5))
        self.assertEqual(net_of(TABLES_G, 2, told), net)
        for k in range(2, 7):
            self.is_right(random.Random(1), TABLES_G, k)

    def test_small_and_odd_ones(self):
        self.assertEqual(net_of((0, (), (), ()), 3, ()), (3, 0, (), (), ()))
        self.assertEqual(mapped((0, (), (), (0, 1)), 2), (2, 0, (), (((), 1),), (0, 1)))
        self.assertEqual(net_of((1, ((1, 4), (0, 3)), (), (2, 0, 5)), 4, ((3, (1,)), (5, (2,)))),
                         (4, 1, ((1, 2), (0, 4)), (((1,), 1), ((2,), 1)), (1, 0, 5)))
        for graph in [T, (0, (), (), ()), (2, (), (), (0, 1, 2, 5)), (0, ((1, 3), (0, 1)), (), ()), (2, (), ((2, 4),), ())]:
            for k in range(2, 7):
                self.is_right(random.Random(2), graph, k)

    def test_by_chance(self):
        dice = random.Random(3)
        for _ in range(120):
            graph = random_named_graph(
                dice, dice.randint(1, 5), dice.randint(0, 3), dice.randint(0, 20), dice.randint(0, 4)
            )
            self.is_right(dice, graph, dice.randint(2, 6))

    def test_designs(self):
        dice = random.Random(4)
        for text in TEXTS:
            self.is_right(dice, graph_of(flat_of(read_design(text))), dice.randint(2, 6), 6)

    def test_great_ones(self):
        dice = random.Random(5)
        graph = random_named_graph(dice, 100, 50, 2000, 50)
        lots = random_lots(dice, [1] * 100, 4)
        for k in (2, 6):
            self.assertEqual(net_runs(mapped(graph, k), lots), runs(graph, lots))


if __name__ == "__main__":
    unittest.main()
