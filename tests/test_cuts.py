"""Cuts, and truths by them ([S6.3])."""

import itertools
import random
import unittest

from graphmodels import TABLES_G, below, first_node, model_cuts, model_is_cut, model_truth
from models import T
from samples import random_named_graph
from support import LOOSE, LoomTest, deep

from bitloom.cuts import cuts, is_cut, truth_by


class CutsTest(LoomTest):
    def test_example(self):
        self.assertEqual(self.is_new(cuts, TABLES_G, 4, 7), [(1, 2, 3, 4), (1, 2, 6), (3, 4, 5), (5, 6)])
        self.assertEqual(cuts(TABLES_G, 3, 7), [(1, 2, 6), (3, 4, 5), (5, 6)])
        self.assertEqual(cuts(TABLES_G, 2, 7), [(5, 6)])
        self.assertEqual(cuts(TABLES_G, 2, 5), [(1, 2)])
        self.assertEqual((truth_by(TABLES_G, 14, (5, 6)), truth_by(TABLES_G, 15, (5, 6))), (2, 13))

    def test_what_is_a_cut(self):
        for cut in [(5, 6), (1, 2, 6), (3, 4, 5), (1, 2, 3, 4), (1, 5, 6), (1, 2, 3, 4, 5, 6), (1, 2, 5, 6)]:
            self.assertIs(is_cut(TABLES_G, 7, cut), True, cut)
        for cut in [*LOOSE, (6, 5), (5,), (5, 5, 6), (5, 6, 7), (7,), (0, 5, 6), (-1, 5, 6), (5, 6, 99), [5, 6], (5, None),
                    (1, True, 6), (True, 2, 6), ("5", 6), (1, 2), (1, 2, 3), deep((5, 6), 30), ((5, 6),)]:
            self.assertIs(is_cut(TABLES_G, 7, cut), False, cut)
        # Nodes that are not below do not stand in a cut, even where the others meet all ways.
        self.assertIs(is_cut(TABLES_G, 5, (1, 2)), True)
        self.assertIs(is_cut(TABLES_G, 5, (1, 2, 3)), False)
        self.assertIs(is_cut(TABLES_G, 5, (1, 2, 6)), False)
        self.assertIs(is_cut(T, 5, (1, 2)), True)
        self.assertIs(is_cut(T, 5, (2, 3, 4)), True)

    def test_cuts_by_chance(self):
        dice = random.Random(1)
        for _ in range(60):
            graph = random_named_graph(dice, dice.randint(1, 4), dice.randint(0, 2), dice.randint(1, 10), 1)
            first = first_node(graph)
            for node in range(first, first + len(graph[2])):
                for k in (2, 3, 5):
                    self.assertEqual(cuts(graph, k, node), model_cuts(graph, k, node))
                every = range(first + len(graph[2]) + 1)
                for cut in itertools.chain(itertools.combinations(every, 1), itertools.combinations(every, 2)):
                    self.assertEqual(is_cut(graph, node, cut), model_is_cut(graph, node, cut))
                for _ in range(20):
                    cut = tuple(sorted(dice.sample(sorted(below(graph, node)), dice.randint(1, len(below(graph, node))))))
                    self.assertEqual(is_cut(graph, node, cut), model_is_cut(graph, node, cut))

    def test_greater_ones(self):
        dice = random.Random(2)
        for _ in range(3):
            graph = random_named_graph(dice, 6, 2, 60, 1)
            node = first_node(graph) + 59
            found = cuts(graph, 5, node)
            self.assertEqual(found, sorted(found))
            for cut in found:
                self.assertTrue(len(cut) <= 5 and model_is_cut(graph, node, cut))
                for k in range(len(cut)):
                    self.assertFalse(model_is_cut(graph, node, cut[:k] + cut[k + 1:]))

    def test_truths(self):
        dice = random.Random(3)
        for _ in range(80):
            graph = random_named_graph(dice, dice.randint(2, 4), dice.randint(0, 2), dice.randint(1, 10), 1)
            first = first_node(graph)
            node = dice.randrange(first, first + len(graph[2]))
            for cut in cuts(graph, 6, node):
                # A cut may have further nodes, also such as lie below others of it.
                more = [other for other in sorted(below(graph, node)) if other not in cut][:6 - len(cut)]
                for nodes in (cut, tuple(sorted([*cut, *more]))):
                    for literal in (2 * node, 2 * node + 1):
                        self.assertEqual(self.is_new(truth_by, graph, literal, nodes), model_truth(graph, literal, nodes))

    def test_deep_ones(self):
        ands = [(2, 4)] + [(2, 2 * k + 7) for k in range(1999)]
        graph = (2, (), tuple(ands), (2 * 2002,))
        self.assertIs(is_cut(graph, 2002, (1, 2)), True)
        self.assertIs(is_cut(graph, 2002, (1, 3)), True)
        self.assertIs(is_cut(graph, 2002, tuple(range(1, 2002))), True)
        self.assertIs(is_cut(graph, 2002, tuple(range(1, 2003))), False)
        self.assertEqual(truth_by(graph, 2 * 2002, (1, 2)), 2)


if __name__ == "__main__":
    unittest.main()
