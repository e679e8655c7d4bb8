"""Runs of graphs ([S4.2])."""

import random
import unittest

from models import T
from samples import random_graph, random_lots
from support import LoomTest

from bitloom.graphrun import graph_outputs, node_values, start_state, step

G = (2, ((1, 9), (0, 12), (1, 17)), ((2, 4), (7, 12), (3, 5), (14, 17)), (15, 1))


def literal_value(graph, literal, state, lot):
    """The value of a literal, by calling itself."""
    many, regs, ands, _ = graph
    node, turned = divmod(literal, 2)
    if node == 0:
        value = 0
    elif node <= many:
        value = lot[node - 1]
    elif node <= many + len(regs):
        value = state[node - many - 1]
    else:
        value = min(literal_value(graph, part, state, lot) for part in ands[node - many - len(regs) - 1])
    return 1 - value if turned else value


class RunTest(LoomTest):
    def test_t(self):
        self.assertEqual(start_state(T), (0,))
        self.assertEqual(self.is_new(node_values, T, (0,), (1,)), [0, 1, 0, 1, 0, 0])
        self.assertEqual(node_values(T, (1,), (1,)), [0, 1, 1, 0, 0, 1])
        self.assertEqual(self.is_new(step, T, (0,), (1,)), ((0,), (1,)))
        self.assertEqual(step(T, (1,), (1,)), ((1,), (0,)))
        self.assertEqual(self.is_new(graph_outputs, T, [(1,), (1,), (0,)]), [(0,), (1,), (0,)])
        self.assertEqual(graph_outputs(T, ((1,), (1,), (0,))), [(0,), (1,), (0,)])

    def test_few_things(self):
        self.assertEqual(graph_outputs((0, (), (), (1, 0)), [(), ()]), [(1, 0), (1, 0)])
        self.assertEqual(graph_outputs(T, []), [])
        self.assertEqual(start_state(G), (1, 0, 1))
        self.assertEqual(start_state((0, (), (), ())), ())
        self.assertEqual(node_values((0, (), (), ()), (), ()), [0])

    def test_registers_step_at_once(self):
        graph = (0, ((1, 4), (0, 2)), (), (2, 4))
        self.assertEqual(graph_outputs(graph, [()] * 3), [(1, 0), (0, 1), (1, 0)])

    def test_by_chance(self):
        dice = random.Random(8)
        for _ in range(60):
            graph = random_graph(dice, 2, 3, 12, 3)
            lots = random_lots(dice, [1, 1], 6)
            state = start_state(graph)
            told = []
            for lot in lots:
                values = [literal_value(graph, 2 * node, state, lot) for node in range(18)]
                self.assertEqual(node_values(graph, state, lot), values)
                outs, late = step(graph, state, lot)
                self.assertEqual(outs, tuple(literal_value(graph, literal, state, lot) for literal in graph[3]))
                self.assertEqual(late, tuple(literal_value(graph, literal, state, lot) for _, literal in graph[1]))
                told.append(outs)
                state = late
            self.assertEqual(graph_outputs(graph, lots), told)

    def test_deep_ones(self):
        graph = (1, (), tuple([(3, 3)] + [(2 * k + 3, 3) for k in range(1, 4000)]), (8002,))
        self.assertEqual(graph_outputs(graph, [(0,), (1,)] * 100), [(0,), (0,)] * 100)


if __name__ == "__main__":
    unittest.main()
