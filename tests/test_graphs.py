"""Graphs of single bits ([0.6], [S4.1], [S4.2], [S4.6], [S4.9])."""

import random
import unittest

from models import T
from samples import random_graph, random_lots, replaced
from support import LOOSE, LoomTest, deep

from bitloom.errors import BadGraph
from bitloom.graphrun import graph_outputs
from bitloom.graphs import (
    check_graph, cut_graph, depth, depths, first_and, has_one_names, many_nodes, needed_nodes,
)

EMPTY = (0, (), (), ())
# Nodes 1 and 2 are in bits, 3 to 5 register bits, 6 to 9 and nodes.
G = (2, ((1, 9), (0, 12), (1, 17)), ((2, 4), (7, 12), (3, 5), (14, 17)), (15, 1))
DEEP = (1, (), tuple([(0, 2)] + [(2, 2 * k + 3) for k in range(1, 4000)]), (8003,))


class CheckTest(LoomTest):
    def test_graphs(self):
        for graph in (T, G, EMPTY, DEEP, (0, ((1, 1),), (), ()), (10**39, (), ((0, 2 * 10**39),), (1,))):
            self.assertIsNone(check_graph(graph))
        dice = random.Random(1)
        for _ in range(50):
            self.assertIsNone(check_graph(random_graph(dice, 2, 3, 20, 3)))

    def test_each_path(self):
        for value in [*LOOSE, deep(T, 40), T[:3], (*T, ()), list(T)]:
            self.fails(BadGraph, {"path": ()}, check_graph, value)
        for many in (-1, True, None, "1", (1,)):
            self.fails(BadGraph, {"path": (0,)}, check_graph, replaced(T, (0,), many))
        for k in (1, 2, 3):
            for part in (list(T[k]), None, 3, "a", {}):
                self.fails(BadGraph, {"path": (k,)}, check_graph, replaced((2, (), (), ()), (k,), part))
        for part in [(1,), (1, 9, 0), [1, 9], None, (2, 9), (True, 9), (False, 9), (-1, 9), (1, -1), (1, 20), (1, True),
                     (1, "9"), (1, None), ((1,), 9)]:
            for k in range(3):
                self.fails(BadGraph, {"path": (1, k)}, check_graph, replaced(G, (1, k), part))
        for part in [(2,), (2, 4, 6), [2, 4], None, (2, 14), (14, 2), (-1, 2), (2, -1), (True, 2), (2, None), ("2", 4)]:
            self.fails(BadGraph, {"path": (2, 1)}, check_graph, replaced(G, (2, 1), part))
        for part in [20, -1, True, None, "1", (1,), 10**39]:
            self.fails(BadGraph, {"path": (3, 1)}, check_graph, replaced(G, (3, 1), part))

    def test_edges_of_literals(self):
        self.assertIsNone(check_graph(replaced(G, (1, 0, 1), 19)))
        self.assertIsNone(check_graph(replaced(G, (2, 1), (13, 13))))
        self.assertIsNone(check_graph(replaced(G, (3, 0), 19)))
        self.assertIsNone(check_graph(replaced(G, (2, 0), (0, 11))))
        self.fails(BadGraph, {"path": (2, 0)}, check_graph, replaced(G, (2, 0), (0, 12)))

    def test_registers_where_ands_are_no_tuple(self):
        for ands in (None, list(G[2])):
            self.fails(BadGraph, {"path": (1, 1)}, check_graph, replaced(G, (2,), ands))
            lesser = replaced(replaced(replaced(G, (2,), ands), (1, 1, 1), 11), (1, 2, 1), 0)
            self.fails(BadGraph, {"path": (2,)}, check_graph, lesser)
            self.fails(BadGraph, {"path": (2,)}, check_graph, replaced(lesser, (3,), None))

    def test_the_first_of_two(self):
        order = [((0,), -1), ((1, 0), None), ((1, 2), (0, 20)), ((2, 0), (1, 12)), ((2, 3), None), ((3, 0), 20), ((3, 1), -1)]
        for k, (one, wrong) in enumerate(order):
            for other, also in order[k + 1:]:
                self.fails(BadGraph, {"path": one}, check_graph, replaced(replaced(G, one, wrong), other, also))
        self.fails(BadGraph, {"path": (0,)}, check_graph, (None, None, None, None))
        self.fails(BadGraph, {"path": (1,)}, check_graph, (0, None, None, None))
        self.fails(BadGraph, {"path": (1, 0)}, check_graph, (0, (1,), None, None))
        self.fails(BadGraph, {"path": (2,)}, check_graph, (0, (), None, None))
        self.fails(BadGraph, {"path": (2, 0)}, check_graph, (0, (), (1,), None))
        self.fails(BadGraph, {"path": (3,)}, check_graph, (0, (), (), None))


class NodesTest(LoomTest):
    def test_one_name_a_thing(self):
        for graph in (T, EMPTY, G, replaced(G, (2, 1), (6, 12))):
            self.assertIs(has_one_names(graph), True)
        for pair in [(4, 2), (2, 2), (2, 3), (0, 4), (1, 4), (4, 1), (2, 4)]:
            self.assertIs(has_one_names(replaced(G, (2, 1), pair)), False, pair)
        self.assertIs(has_one_names(replaced(G, (2, 3), (3, 5))), False)

    def test_numbers_of_nodes(self):
        self.assertEqual([first_and(graph) for graph in (T, G, EMPTY)], [3, 6, 1])
        self.assertEqual([many_nodes(graph) for graph in (T, G, EMPTY)], [6, 10, 1])

    def test_depths(self):
        self.assertEqual(self.is_new(depths, T), [0, 0, 0, 1, 1, 2])
        self.assertEqual(depth(T), 2)
        self.assertEqual(depths(G), [0, 0, 0, 0, 0, 0, 1, 2, 1, 3])
        self.assertEqual(depth(G), 2)
        self.assertEqual(depth(replaced(G, (1, 1, 1), 19)), 3)
        self.assertEqual(depth(replaced(replaced(G, (1,), ()), (2,), ())[:3] + ((2, 1),)), 0)
        self.assertEqual((depth(EMPTY), depths(EMPTY)), (0, [0]))
        self.assertEqual((depth(DEEP), len(depths(DEEP))), (4000, 4002))

    def test_needed_nodes(self):
        self.assertEqual(self.is_new(needed_nodes, T), [1, 2, 3, 4, 5])
        # The out 15 needs 7, so 3 and 6, so 1, 2 and what register 3 takes, which is 4, and so 6 once more.
        self.assertEqual(needed_nodes(G), [0, 1, 2, 3, 4, 6, 7])
        self.assertEqual(needed_nodes(EMPTY), [])
        self.assertEqual(needed_nodes((1, ((1, 0), (0, 4)), (), (6,))), [0, 2, 3])
        self.assertEqual(needed_nodes((1, ((1, 4), (0, 4)), (), ())), [])
        self.assertEqual(needed_nodes(DEEP), list(range(4002)))

    def test_cut(self):
        self.assertEqual(cut_graph(T), T)
        self.assertEqual(cut_graph(G), (2, ((1, 9), (0, 10)), ((2, 4), (7, 10)), (13, 1)))
        self.assertEqual(cut_graph((3, ((1, 8),), ((2, 4), (4, 6)), ())), (3, (), (), ()))
        self.assertEqual(cut_graph(DEEP), DEEP)

    def test_cut_by_chance(self):
        dice = random.Random(3)
        for _ in range(150):
            graph = random_graph(dice, 3, dice.randint(0, 4), dice.randint(0, 25), 2)
            cut = cut_graph(graph)
            self.assertIsNone(check_graph(cut))
            self.assertEqual((cut[0], len(cut[3])), (graph[0], len(graph[3])))
            needed = [node for node in needed_nodes(graph) if node > graph[0]]
            self.assertEqual(len(cut[1]) + len(cut[2]), len(needed))
            kept = [regs[0] for k, regs in enumerate(graph[1]) if k + 1 + graph[0] in needed]
            self.assertEqual([start for start, _ in cut[1]], kept)
            self.assertEqual([node for node in needed_nodes(cut) if node > cut[0]], list(range(4, many_nodes(cut))))
            lots = random_lots(dice, [1, 1, 1], 8)
            self.assertEqual(graph_outputs(cut, lots), graph_outputs(graph, lots))
            self.assertEqual(cut_graph(cut), cut)
            if has_one_names(graph):
                self.assertIs(has_one_names(cut), True)

    def test_cut_keeps_one_name_a_thing(self):
        dice = random.Random(4)
        for _ in range(60):
            _, regs, ands, outs = random_graph(dice, 3, 3, 25, 2)
            pairs = []
            for one, other in ands:
                pair = (min(one, other), max(one, other))
                if pair[0] < 2 or pair[0] // 2 == pair[1] // 2 or pair in pairs:
                    least = next(p for p in ((a, b) for b in range(4, 14) for a in range(2, b)) if p not in pairs
                                 and p[0] // 2 != p[1] // 2)
                    pair = least
                pairs.append(pair)
            graph = (3, regs, tuple(pairs), outs)
            self.assertIs(has_one_names(graph), True)
            self.assertIs(has_one_names(cut_graph(graph)), True)


if __name__ == "__main__":
    unittest.main()
