"""Registers read through ([S5.1])."""

import random
import unittest

from graphmodels import MOVING_G, first_node, model_needed, model_source
from models import T
from samples import random_graph
from support import LoomTest

from bitloom.graphs import needed_nodes
from bitloom.sources import needed_ands, source_of, still_registers

# Registers 2 to 6: 2 takes 3 turned, 3 takes the in bit, 4 and 5 take each other, 6 takes 5 turned.
CHAINS = (1, ((0, 7), (1, 2), (0, 10), (1, 8), (0, 11)), (), (4, 13))


class SourcesTest(LoomTest):
    def test_examples(self):
        self.assertEqual(self.is_new(source_of, MOVING_G, 6), (6, 0, (3,)))
        self.assertEqual(source_of(MOVING_G, 7), (6, 1, (3,)))
        self.assertEqual(source_of(MOVING_G, 9), (4, 1, ()))
        self.assertEqual(self.is_new(needed_ands, MOVING_G), [4, 5, 6])
        self.assertEqual(self.is_new(still_registers, MOVING_G), [])

    def test_chains(self):
        self.assertEqual(source_of(CHAINS, 4), (1, 1, (2, 3)))
        self.assertEqual(source_of(CHAINS, 5), (1, 0, (2, 3)))
        self.assertEqual(source_of(CHAINS, 6), (1, 0, (3,)))
        self.assertEqual(source_of(CHAINS, 3), (1, 1, ()))
        self.assertEqual(source_of(CHAINS, 0), (0, 0, ()))
        self.assertEqual(source_of(CHAINS, 1), (0, 1, ()))
        self.assertEqual(source_of(CHAINS, 8), (4, 0, ()))
        self.assertEqual(source_of(CHAINS, 11), (5, 1, ()))
        self.assertEqual(source_of(CHAINS, 12), (5, 1, (6,)))
        self.assertEqual(source_of(CHAINS, 13), (5, 0, (6,)))
        self.assertEqual(still_registers(CHAINS), [4, 5])
        self.assertEqual(needed_ands(CHAINS), [])

    def test_rings(self):
        graph = (0, ((0, 2), (0, 7), (1, 9), (0, 4), (0, 5)), (), ())
        self.assertEqual(still_registers(graph), [1, 2, 3, 4])
        self.assertEqual(source_of(graph, 3), (1, 1, ()))
        self.assertEqual(source_of(graph, 11), (2, 0, (5,)))
        self.assertEqual(still_registers((0, (), (), (0,))), [])

    def test_needed(self):
        graph = (1, ((0, 6), (0, 8)), ((2, 3), (2, 6), (2, 2)), (4,))
        self.assertEqual(needed_ands((1, ((0, 8), (0, 10)), ((2, 3), (2, 6), (2, 2)), (4,))), [4])
        self.assertEqual(needed_ands(graph), [4])
        self.assertEqual(needed_ands((1, ((0, 8),), ((2, 4), (2, 3)), ())), [])

    def test_by_chance(self):
        dice = random.Random(1)
        for _ in range(300):
            graph = random_graph(dice, dice.randint(0, 2), dice.randint(0, 8), dice.randint(0, 8), dice.randint(0, 3))
            first = first_node(graph)
            ring = []
            for node in range(graph[0] + 1, first):
                source, _, chain = model_source(graph, 2 * node)
                if source == node:
                    ring.append(node)
            self.assertEqual(still_registers(graph), ring)
            for literal in range(2 * (first + len(graph[2]))):
                self.assertEqual(self.is_new(source_of, graph, literal), model_source(graph, literal))
            self.assertEqual(needed_ands(graph), model_needed(graph))
            self.assertEqual(needed_ands(graph), [node for node in needed_nodes(graph) if node >= first])

    def test_long_chains(self):
        regs = tuple((0, 2 * node + 1) for node in range(1, 3001))
        graph = (1, regs, (), (2 * 3001,))
        self.assertEqual(source_of(graph, 6002), (1, 0, tuple(range(3001, 1, -1))))
        self.assertEqual(still_registers((1, ((0, 6002), *regs[1:]), (), ())), list(range(2, 3002)))
        self.assertEqual(needed_ands(T), [3, 4, 5])


if __name__ == "__main__":
    unittest.main()
