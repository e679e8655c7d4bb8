"""Labels, the least depth, and label papers ([S6.6] to [S6.8])."""

import random
import unittest

from graphmodels import TABLES_G, below, first_node, model_is_cut, model_labels
from models import T
from samples import random_named_graph, replaced
from support import LOOSE, LoomTest, deep

from bitloom.graphs import depths
from bitloom.labels import judge_labels, label_paper, labels, least_depth

# Two levels of tables of two inputs: node 8 is over 1 to 4, with 6 and 7 between.
PAPER_2 = ((1, (1, 2), None), (1, (3, 4), None), (2, (5, 6), ((1,), (2,), (3,))))
# Graphs in which, with three inputs, a node has a cut with lesser labels that those of its two nodes do not tell.
HIDDEN = [
    (4, (), ((6, 9), (3, 8), (5, 10), (10, 14), (13, 15), (11, 18), (6, 18), (12, 19), (2, 14), (17, 21)), (1,)),
    (6, (), ((7, 8), (2, 14), (3, 5), (15, 17), (5, 21), (15, 21), (17, 18), (4, 17), (7, 15), (23, 26)), (10,)),
    (6, ((1, 18),), ((12, 15), (5, 13), (5, 9), (13, 17), (13, 23), (17, 20), (2, 22), (15, 26), (23, 31), (10, 24)), (9,)),
]


def graphs(dice, many):
    """Small graphs that have one name a thing."""
    for _ in range(many):
        yield random_named_graph(dice, dice.randint(1, 5), dice.randint(0, 3), dice.randint(0, 12), dice.randint(0, 4))


def model_fault(graph, k, paper):
    """The first fault of a paper whose triples have right kinds, by S6.8."""
    first = first_node(graph)
    told = [0] * first
    for node, (label, cut, ways) in enumerate(paper, start=first):
        inner = [literal // 2 for literal in graph[2][node - first]]
        p = max(told[other] for other in inner)
        if label not in (p, p + 1):
            return ("label", node)
        is_right = list(cut) == sorted(set(cut)) and len(cut) <= k and model_is_cut(graph, node, cut)
        if not is_right or max(told[other] for other in cut) != label - 1:
            return ("cut", node)
        if label == p or p == 0:
            if ways is not None:
                return ("ways", node)
        elif not model_ways(graph, k, told, node, p, ways):
            return ("ways", node)
        told.append(label)
    return None


def model_ways(graph, k, told, node, p, ways):
    """Whether ways are right, by S6.7."""
    first = first_node(graph)
    if ways is None or len(ways) != k + 1 or len(set(sum(ways, ()))) != len(sum(ways, ())):
        return False
    under = below(graph, node)
    lump = [node] + [other for other in under if told[other] == p]
    for way in ways:
        if not way or not set(way) <= under or any(told[other] >= p for other in way) or way[0] >= first:
            return False
        for ahead, other in zip(way, way[1:]):
            if other < first or ahead not in [literal // 2 for literal in graph[2][other - first]]:
                return False
        if not any(way[-1] == literal // 2 for other in lump if other >= first for literal in graph[2][other - first]):
            return False
    return True


class LabelsTest(LoomTest):
    def test_example(self):
        self.assertEqual([labels(TABLES_G, k) for k in (2, 3, 4)], [(1, 1, 2), (1, 1, 2), (1, 1, 1)])
        self.assertEqual([least_depth(TABLES_G, k) for k in (2, 3, 4, 5, 6)], [2, 2, 1, 1, 1])
        self.assertIsNone(judge_labels(TABLES_G, 2, PAPER_2))
        self.assertIsNone(judge_labels(TABLES_G, 2, self.is_new(label_paper, TABLES_G, 2)))

    def test_small_and_odd_ones(self):
        for graph, told in [
            ((0, (), (), ()), 0), ((2, (), (), (0, 2)), 0), ((2, (), (), (0, 3)), 1), ((0, (), (), (1,)), 1),
            ((1, ((0, 5),), (), ()), 1), ((1, ((0, 2), (1, 0)), (), (4,)), 0), ((2, ((0, 8),), ((2, 4),), ()), 1),
            ((2, (), ((2, 4),), (2, 0)), 0), ((2, (), ((2, 4),), (7,)), 1),
        ]:
            for k in range(2, 7):
                self.assertEqual(least_depth(graph, k), told, graph)
                self.assertEqual(labels(graph, k), (1,) * len(graph[2]))
                self.assertEqual(label_paper(graph, k), tuple((1, (1, 2), None) for _ in graph[2]))

    def test_by_chance(self):
        dice = random.Random(1)
        flows = 0
        for graph in graphs(dice, 120):
            for k in range(2, 7):
                told = model_labels(graph, k)
                first = first_node(graph)
                self.assertEqual(labels(graph, k), tuple(told[first:]))
                self.assertTrue(all(label <= deep for label, deep in zip(told, depths(graph))))
                paper = self.is_new(label_paper, graph, k)
                self.assertIsNone(judge_labels(graph, k, paper))
                self.assertIsNone(model_fault(graph, k, paper))
                self.assertEqual(tuple(triple[0] for triple in paper), labels(graph, k))
                flows += sum(triple[2] is not None for triple in paper)
                roots = [*graph[3], *[literal for _, literal in graph[1]]]
                levels = [told[literal // 2] if literal // 2 >= first else literal % 2 for literal in roots]
                self.assertEqual(least_depth(graph, k), max(levels, default=0))
        self.assertGreater(flows, 100)

    def test_changed_papers(self):
        dice = random.Random(2)
        met = set()
        for graph in graphs(dice, 250):
            if not graph[2]:
                continue
            k = dice.randint(2, 3)
            paper = label_paper(graph, k)
            at = dice.randrange(len(paper))
            part = dice.randrange(3)
            label, _, ways = paper[at]
            every = range(first_node(graph) + len(paper))
            late = [
                label + dice.choice([-1, 1]), tuple(sorted(dice.sample(every, dice.randint(1, min(3, len(every)))))),
                None if ways else tuple((node,) for node in every[1:k + 2]),
            ][part]
            changed = replaced(paper, (at, part), late)
            fault = judge_labels(graph, k, changed)
            self.assertEqual(fault, model_fault(graph, k, changed))
            met.add(fault and fault[0])
            if ways:
                others = list(ways)
                others[dice.randrange(len(others))] = dice.choice(others)[dice.randint(0, 1):]
                changed = replaced(paper, (at, 2), tuple(others))
                self.assertEqual(judge_labels(graph, k, changed), model_fault(graph, k, changed))
        self.assertLessEqual({"label", "cut", "ways"}, met)

    def test_cuts_that_are_not_seen_at_once(self):
        for graph in HIDDEN:
            for k in range(2, 7):
                paper = label_paper(graph, k)
                self.assertEqual(labels(graph, k), tuple(model_labels(graph, k)[first_node(graph):]))
                self.assertIsNone(model_fault(graph, k, paper))
                self.assertIsNone(judge_labels(graph, k, paper))
        dice = random.Random(4)
        for many_ins, many in [(4, 30), (5, 40), (4, 60), (8, 120)]:
            for _ in range(20):
                graph = random_named_graph(dice, many_ins, 1, many, 1)
                for k in range(3, 7):
                    self.assertIsNone(judge_labels(graph, k, label_paper(graph, k)))

    def test_changed_ways(self):
        dice = random.Random(5)
        met = {}
        for _ in range(60):
            graph = random_named_graph(dice, dice.randint(4, 7), dice.randint(0, 2), dice.randint(8, 20), 1)
            k = dice.randint(2, 3)
            paper = label_paper(graph, k)
            every = range(first_node(graph) + len(paper))
            for at, (_, _, ways) in enumerate(paper):
                for j, way in enumerate(ways or ()):
                    place = dice.randrange(len(way))
                    for late in [way[1:], way[:-1], (*way, dice.choice(every)), (dice.choice(every), *way),
                                 way[:place] + (dice.choice(every),) + way[place + 1:], way[:place] + way[place + 1:]]:
                        changed = replaced(paper, (at, 2, j), late)
                        fault = judge_labels(graph, k, changed)
                        self.assertEqual(fault, model_fault(graph, k, changed))
                        met[fault is None, len(way)] = True
        self.assertLessEqual({(False, 1), (False, 2), (False, 3), (True, 1), (True, 2)}, set(met))

    def test_other_right_papers(self):
        # The ways may come to the lump elsewhere, and the cuts may have further nodes.
        for paper in [replaced(PAPER_2, (2, 2), ((1,), (2,), (4,))), replaced(PAPER_2, (2, 2), ((4,), (2,), (3,))),
                      replaced(PAPER_2, (2, 2), ((1, 5), (3,), (4,)))]:
            self.assertEqual(judge_labels(TABLES_G, 2, paper), model_fault(TABLES_G, 2, paper))
        self.assertIsNone(judge_labels(TABLES_G, 3, ((1, (1, 2), None), (1, (3, 4), None), (2, (1, 5, 6), ((1,), (2,), (3,), (4,))))))

    def test_each_fault(self):
        for value in [*LOOSE, list(PAPER_2), PAPER_2[:2], (*PAPER_2, PAPER_2[0]), deep(PAPER_2, 20)]:
            self.assertEqual(judge_labels(TABLES_G, 2, value), ("form",))
        for part in [(1, (1, 2)), [1, (1, 2), None], None, 1, (1, (1, 2), None, None)]:
            for k in range(3):
                self.assertEqual(judge_labels(TABLES_G, 2, replaced(PAPER_2, (k,), part)), ("form",))
        for part in (0, 3, -1, True, None, "2", (2,)):
            fault = ("cut", 5) if part == 0 and part is not False else ("label", 5)
            self.assertEqual(judge_labels(TABLES_G, 2, replaced(PAPER_2, (0, 0), part)), fault, part)
        for part in (0, 3, 4, True, None):
            self.assertEqual(judge_labels(TABLES_G, 2, replaced(PAPER_2, (2, 0), part)), ("label", 7))
        self.assertEqual(judge_labels(TABLES_G, 2, replaced(PAPER_2, (2, 0), 1)), ("cut", 7))
        for part in [(6, 5), (5,), (1, 2, 6), [5, 6], None, (5, 6, 7), 5, ("a",), (5, True)]:
            self.assertEqual(judge_labels(TABLES_G, 2, replaced(PAPER_2, (2, 1), part)), ("cut", 7), part)
        for part in [None, (), ((1,), (2,)), ((1,), (2,), (3,), (4,)), [(1,), (2,), (3,)], ((1,), (2,), [3]), ((1,), (2,), 3),
                     ((1,), (2,), ()), ((1,), (2,), (2,)), ((1,), (2,), (5,)), ((1,), (2,), (True,)), ((1,), (2,), (0,)),
                     ((1,), (2,), (9,)), ((1,), (2,), (-1,)), ((1,), (2,), ("3",)), ((1,), (2,), (3, 9)), 3,
                     ((1,), (2,), (3, 10**39))]:
            self.assertEqual(judge_labels(TABLES_G, 2, replaced(PAPER_2, (2, 2), part)), ("ways", 7), part)
        self.assertEqual(judge_labels(TABLES_G, 2, replaced(PAPER_2, (0, 2), ())), ("ways", 5))
        self.assertEqual(judge_labels(TABLES_G, 2, replaced(PAPER_2, (0, 2), ((1,), (2,), (3,)))), ("ways", 5))
        both = replaced(replaced(PAPER_2, (0, 2), ()), (1, 1), (3,))
        self.assertEqual(judge_labels(TABLES_G, 2, both), ("ways", 5))

    def test_great_ones(self):
        dice = random.Random(3)
        for many, k in [(10, 2), (40, 3), (100, 4), (200, 6)]:
            graph = random_named_graph(dice, many, many, 2000, 50)
            paper = label_paper(graph, k)
            self.assertIsNone(judge_labels(graph, k, paper))
            self.assertEqual(tuple(triple[0] for triple in paper), labels(graph, k))
        self.assertIsNone(judge_labels(T, 2, label_paper(T, 2)))


if __name__ == "__main__":
    unittest.main()
