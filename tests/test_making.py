"""Graphs made with one name a thing ([S4.5])."""

import random
import unittest

from graphmodels import all_values, are_alike, first_node, literal_value, starts
from models import T
from samples import random_graph, random_lots, random_named_graph
from support import LoomTest

from bitloom.graphs import check_graph, has_one_names
from bitloom.making import and_of, made_anew

G = (2, ((0, 8), (1, 10)), ((2, 5), (3, 6)), (10,))


def model_and(ands, first, one, other):
    """The literal of the and of two literals, by S4.5; a pair that is missing is put behind the list of the ands."""
    if 0 in (one, other) or one == (other + 1 if other % 2 == 0 else other - 1):
        return 0
    if one == 1 or one == other:
        return other
    if other == 1:
        return one
    pair = (min(one, other), max(one, other))
    if pair not in ands:
        ands.append(pair)
    return 2 * (first + ands.index(pair))


def model_anew(graph, exchanges):
    """The graph made anew, by S4.5."""
    many, regs, pairs, outs = graph
    first = first_node(graph)
    become = {}
    for node in range(first):
        literal = exchanges.get(node, 2 * node)
        become[2 * node] = literal
        become[2 * node + 1] = literal + 1 if literal % 2 == 0 else literal - 1
    ands = []
    for node, (one, other) in enumerate(pairs, start=first):
        literal = model_and(ands, first, become[one], become[other])
        become[2 * node] = literal
        become[2 * node + 1] = literal + 1 if literal % 2 == 0 else literal - 1
    late = tuple((start, become[literal]) for start, literal in regs)
    return many, late, tuple(ands), tuple(become[literal] for literal in outs)


class MakingTest(LoomTest):
    def test_and_of_what_is_plain(self):
        for one in (0, 1, 2, 3, 8, 11, 12):
            self.assertEqual(self.is_new(and_of, G, 0, one), (G, 0))
            self.assertEqual(and_of(G, one, 0), (G, 0))
            self.assertEqual(and_of(G, 1, one), (G, one))
            self.assertEqual(and_of(G, one, 1), (G, one))
            self.assertEqual(and_of(G, one, one), (G, one))
            self.assertEqual(and_of(G, one, one ^ 1), (G, 0))

    def test_and_of_what_is_there(self):
        self.assertEqual(and_of(G, 2, 5), (G, 10))
        self.assertEqual(and_of(G, 5, 2), (G, 10))
        self.assertEqual(and_of(G, 6, 3), (G, 12))

    def test_and_of_what_is_new(self):
        for one, other in [(2, 4), (4, 2)]:
            self.assertEqual(and_of(G, one, other), ((2, G[1], (*G[2], (2, 4)), G[3]), 14))
        self.assertEqual(and_of(G, 13, 11), ((2, G[1], (*G[2], (11, 13)), G[3]), 14))
        self.assertEqual(and_of((0, (), (), ()), 1, 0), ((0, (), (), ()), 0))

    def test_made_anew(self):
        graph = (1, ((0, 7), (1, 10)), ((2, 3), (5, 2), (2, 5), (8, 1), (8, 10)), (12, 15, 17, 6))
        # Node 4 is nought; 5 and 6 are one pair; 7 and 8 are nought, since node 4 is.
        self.assertEqual(made_anew(graph, {}), (1, ((0, 7), (1, 8)), ((2, 5),), (8, 1, 1, 6)))
        self.assertEqual(made_anew(T, {}), T)

    def test_exchanges(self):
        # Register 3 is told by register 2 turned, so nodes 4 and 5 become one.
        graph = (1, ((0, 8), (1, 10)), ((2, 4), (2, 7)), (8, 10, 6))
        self.assertEqual(made_anew(graph, {3: 5}), (1, ((0, 8), (1, 8)), ((2, 4),), (8, 8, 5)))
        self.assertEqual(made_anew(graph, {2: 0, 3: 1}), (1, ((0, 0), (1, 0)), (), (0, 0, 1)))

    def test_by_chance(self):
        dice = random.Random(1)
        for _ in range(300):
            graph = random_graph(dice, dice.randint(0, 2), dice.randint(0, 3), dice.randint(0, 20), dice.randint(0, 3))
            late = self.is_new(made_anew, graph, {})
            self.assertIsNone(check_graph(late))
            self.assertIs(has_one_names(late), True)
            self.assertEqual(late, model_anew(graph, {}))
            self.assertTrue(are_alike(graph, late))
            self.assertEqual(made_anew(late, {}), late)
            kept = [node for node in range(graph[0] + 1, first_node(graph)) if dice.random() < 0.5]
            exchanges = {}
            for node in range(graph[0] + 1, first_node(graph)):
                if node not in kept:
                    ahead = [other for other in kept if other < node]
                    exchanges[node] = 2 * dice.choice([0, *ahead]) + dice.randrange(2)
            before = dict(exchanges)
            late = made_anew(graph, exchanges)
            self.assertEqual(exchanges, before)
            self.assertEqual(late, model_anew(graph, exchanges))
            self.assertEqual((late[0], starts(late)), (graph[0], starts(graph)))
            self.same_where_exchanges_hold(dice, graph, exchanges, late)

    def same_where_exchanges_hold(self, dice, graph, exchanges, late):
        """At states in which each exchanged bit is what its exchange is, outs and registers take the same values."""
        for lot in random_lots(dice, [1] * graph[0], 3):
            state = random_lots(dice, [1] * len(graph[1]), 1)[0]
            values = [0, *lot, *state]
            for node, literal in exchanges.items():
                values[node] = literal_value(values, literal)
            state = values[1 + graph[0]:]
            one, other = all_values(graph, state, lot), all_values(late, state, lot)
            pairs = [*zip(graph[3], late[3]), *zip([reg[1] for reg in graph[1]], [reg[1] for reg in late[1]])]
            for literal, become in pairs:
                self.assertEqual(literal_value(one, literal), literal_value(other, become))

    def test_and_of_by_chance(self):
        dice = random.Random(2)
        for _ in range(200):
            graph = random_named_graph(dice, 2, 2, dice.randint(0, 8), 1)
            every = 2 * (first_node(graph) + len(graph[2]))
            one, other = dice.randrange(every), dice.randrange(every)
            ands = list(graph[2])
            literal = model_and(ands, first_node(graph), one, other)
            self.assertEqual(and_of(graph, one, other), ((graph[0], graph[1], tuple(ands), graph[3]), literal))
            self.assertIs(has_one_names(and_of(graph, one, other)[0]), True)


if __name__ == "__main__":
    unittest.main()
