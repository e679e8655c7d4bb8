"""Registers that parting cannot tell apart, and graphs merged ([S4.7], [S4.10])."""

import itertools
import random
import unittest

from graphmodels import are_alike, first_node, starts
from models import T
from samples import random_graph
from support import LoomTest

from bitloom.graphs import check_graph, cut_graph, has_one_names, needed_nodes
from bitloom.making import made_anew
from bitloom.merging import are_closed, find_equals, merged

# Registers 2 and 3 are always unlike: they begin so, and are turned by the same in bit.
PAIR = (1, ((0, 13), (1, 18)), ((2, 5), (3, 4), (9, 11), (2, 6), (3, 7), (15, 17)), (4, 6))


def two_copies(graph):
    """Two copies of a graph side by side, with the same in bits."""
    many, regs, ands, outs = graph
    late = len(regs)
    first = first_node(graph)

    def moved(literal, copy):
        node = literal // 2
        if node > many:
            node += copy * late if node < first else late + copy * len(ands)
        return 2 * node + literal % 2

    twice = [[], [], []]
    for copy in (0, 1):
        twice[0] += [(start, moved(literal, copy)) for start, literal in regs]
        twice[1] += [(moved(one, copy), moved(other, copy)) for one, other in ands]
        twice[2] += [moved(literal, copy) for literal in outs]
    return many, *[tuple(part) for part in twice]


def partitions(things):
    """All ways to part a list into lots."""
    if not things:
        yield []
        return
    for rest in partitions(things[1:]):
        yield [[things[0]], *rest]
        for k in range(len(rest)):
            yield rest[:k] + [[things[0], *rest[k]]] + rest[k + 1:]


def literals(graph):
    """The literals that stand in lots."""
    return [0] + [2 * node + start for node, start in enumerate(starts(graph), start=1 + graph[0])]


class MergingTest(LoomTest):
    def test_examples(self):
        self.assertEqual(self.is_new(find_equals, T), [(0,), (4,)])
        self.assertEqual(find_equals(PAIR), [(0,), (4, 7)])
        late = merged(PAIR)
        self.assertEqual((late[0], len(late[1]), len(late[2]), late[3]), (1, 1, 3, (4, 5)))
        self.assertEqual(find_equals((0, (), (), ())), [(0,)])
        self.assertEqual(find_equals((3, (), ((2, 4),), (8,))), [(0,)])

    def test_constant_registers(self):
        # Register 1 stays 0, 2 stays 1, 3 takes 1 once, 4 takes what is never 1.
        graph = (0, ((0, 2), (1, 4), (0, 1), (0, 12)), ((2, 6), (4, 6)), (2, 4, 6, 8))
        self.assertEqual(find_equals(graph), [(0, 2, 5), (6,), (8,)])
        graph = (0, ((0, 2), (1, 4), (0, 1), (0, 10)), ((2, 6), (4, 6)), (2, 4, 6, 8))
        self.assertEqual(find_equals(graph), [(0, 2, 5, 8), (6,)])
        self.assertEqual(merged(graph), (0, ((0, 1),), (), (0, 1, 2, 0)))

    def test_what_is_only_shown_to_be_equal_is_not_told(self):
        # Register 3 takes 1 and 2, register 4 takes 1 and this, which is the same, but not by making.
        graph = (2, ((0, 10), (0, 12)), ((2, 4), (2, 10)), (6, 8))
        self.assertEqual(find_equals(graph), [(0,), (6,), (8,)])
        self.assertEqual(find_equals((2, ((0, 10), (0, 12)), ((2, 4), (4, 2)), (6, 8))), [(0,), (6, 8)])

    def test_closed_lots(self):
        self.assertIs(are_closed(PAIR, [(0,), (4, 7)]), True)
        self.assertIs(are_closed(PAIR, [(7, 4), (0,)]), True)
        self.assertIs(are_closed(PAIR, ((7, 4), (0,))), True)
        self.assertIs(are_closed(PAIR, [(0,), (7,), (4,)]), True)
        self.assertIs(are_closed(PAIR, [(0, 4), (7,)]), False)
        self.assertIs(are_closed(PAIR, [(4, 0, 7)]), False)
        self.assertIs(are_closed((2, (), (), ()), [(0,)]), True)

    def test_greatest_closed_lots(self):
        dice = random.Random(1)
        many_closed = 0
        for _ in range(150):
            graph = random_graph(dice, dice.randint(0, 2), dice.randint(0, 4), dice.randint(0, 8), 1)
            lots = self.is_new(find_equals, graph)
            self.assertIs(are_closed(graph, lots), True)
            self.assertEqual(sorted(itertools.chain(*lots)), sorted(literals(graph)))
            self.assertTrue(all(list(lot) == sorted(lot) and isinstance(lot, tuple) for lot in lots))
            self.assertEqual([lot[0] for lot in lots], sorted(lot[0] for lot in lots))
            for others in partitions(literals(graph)):
                if are_closed(graph, [tuple(lot) for lot in others]):
                    many_closed += 1
                    for lot in others:
                        self.assertTrue(any(set(lot) <= set(one) for one in lots))
        self.assertGreater(many_closed, 300)

    def test_merged(self):
        dice = random.Random(2)
        for _ in range(200):
            graph = random_graph(dice, dice.randint(0, 2), dice.randint(0, 4), dice.randint(0, 14), dice.randint(0, 3))
            late = self.is_new(merged, graph)
            self.assertIsNone(check_graph(late))
            self.assertIs(has_one_names(late), True)
            self.assertTrue(are_alike(graph, late))
            self.assertLessEqual((len(late[1]), len(late[2])), (len(graph[1]), len(graph[2])))
            self.assertLessEqual(len(late[2]), len(graph[2]))
            self.assertEqual(cut_graph(late), late)
            exchanges = {}
            for lot in find_equals(graph):
                for literal in lot[1:]:
                    exchanges[literal // 2] = lot[0] ^ literal % 2
            self.assertEqual(late, cut_graph(made_anew(graph, exchanges)))

    def test_nothing_is_cut_ahead(self):
        # Register 2 is told by no out, but is the head of a lot of which register 3 is told.
        graph = (1, ((0, 2), (0, 2)), (), (6,))
        self.assertEqual(merged(graph), (1, ((0, 2),), (), (4,)))
        graph = (1, ((0, 3), (1, 2)), (), (6,))
        self.assertEqual(merged(graph), (1, ((0, 3),), (), (5,)))

    def test_two_copies(self):
        dice = random.Random(3)
        for _ in range(100):
            graph = random_graph(dice, 2, dice.randint(1, 3), dice.randint(0, 8), 2)
            late = merged(two_copies(graph))
            self.assertEqual(late[3][:2], late[3][2:])
            self.assertLessEqual(len(late[1]), len(graph[1]))

    def test_a_long_parting(self):
        graph = (1, ((0, 2), *[(0, 2 * (k + 2)) for k in range(99)]), (), (202,))
        self.assertEqual(find_equals(graph), [(0,)] + [(2 * node,) for node in range(2, 102)])
        self.assertEqual(merged(graph), graph)
        self.assertIn(101, needed_nodes(graph))


if __name__ == "__main__":
    unittest.main()
