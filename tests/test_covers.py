"""Covers ([S6.4], [S6.6])."""

import random
import unittest

from graphmodels import TABLES_G, first_node, model_is_cut, model_labels
from models import T
from samples import random_named_graph, replaced
from support import LOOSE, LoomTest, deep

from bitloom.covers import cover, cover_depth, judge_cover, lean_cover
from bitloom.graphs import depth
from bitloom.labels import least_depth

# The cover of the example with two inputs: nodes 5 to 7, 7 turned, and 1 turned.
COVER_2 = ((3, (1,)), (10, (1, 2)), (12, (3, 4)), (14, (5, 6)), (15, (5, 6)))
COVER_4 = ((3, (1,)), (14, (1, 2, 3, 4)), (15, (1, 2, 3, 4)))


def roots_of(graph):
    """The literals in outs and in regs."""
    return [*graph[3], *[literal for _, literal in graph[1]]]


def model_fault(graph, k, value):
    """The first fault of a cover that is right in form, by the interface."""
    first, many = first_node(graph), first_node(graph) + len(graph[2])
    for j, (literal, _) in enumerate(value):
        is_table = 0 < literal < 2 * many and (literal % 2 == 1 or literal // 2 >= first)
        if not is_table or j and literal <= value[j - 1][0]:
            return ("literal", j)
    for j, (literal, nodes) in enumerate(value):
        node = literal // 2
        if node < first:
            is_right = nodes == ((node,) if node else ())
        else:
            is_right = len(nodes) <= k and list(nodes) == sorted(set(nodes)) and model_is_cut(graph, node, nodes)
        if not is_right:
            return ("nodes", j)
    wanted = {literal for literal in roots_of(graph) if literal % 2 or literal // 2 >= first}
    wanted |= {2 * node for _, nodes in value for node in nodes if node >= first}
    told = {literal for literal, _ in value}
    if wanted - told:
        return ("lacks", min(wanted - told))
    for j, (literal, _) in enumerate(value):
        if literal not in wanted:
            return ("waste", j)
    return None


def model_depth(graph, value):
    """The depth of a cover."""
    pairs = dict(value)

    def level(literal):
        nodes = [node for node in pairs[literal] if node >= first_node(graph)]
        return 1 + max([level(2 * node) for node in nodes], default=0)

    return max([level(literal) for literal in pairs], default=0)


class CoversTest(LoomTest):
    def is_right(self, graph, k):
        """All covers that are told are right, and as deep as told."""
        told = self.is_new(cover, graph, k)
        least = least_depth(graph, k)
        self.assertIsNone(judge_cover(graph, k, told))
        self.assertIsNone(model_fault(graph, k, told))
        self.assertEqual((cover_depth(graph, told), model_depth(graph, told)), (least, least))
        self.assertLessEqual(len(told), len(graph[2]) + len(roots_of(graph)))
        self.assertLessEqual(least, max(depth(graph), 1) if depth(graph) == 0 else depth(graph) + 1)
        for more in (0, 1, 5, 10**6):
            lean = self.is_new(lean_cover, graph, k, least + more)
            self.assertIsNone(judge_cover(graph, k, lean))
            self.assertLessEqual(cover_depth(graph, lean), least + more)
            self.assertLessEqual(len(lean), len(told))
        return told

    def test_example(self):
        self.assertEqual(self.is_right(TABLES_G, 2), COVER_2)
        self.assertEqual(self.is_right(TABLES_G, 4), COVER_4)
        self.assertEqual((cover_depth(TABLES_G, COVER_2), cover_depth(TABLES_G, COVER_4)), (2, 1))

    def test_small_and_odd_ones(self):
        for graph, told in [
            ((0, (), (), ()), ()), ((2, (), (), (0, 2, 4)), ()), ((2, (), (), (1, 3, 5, 3)), ((1, ()), (3, (1,)), (5, (2,)))),
            ((0, ((0, 3), (1, 1)), (), ()), ((1, ()), (3, (1,)))), ((2, (), ((2, 4),), ()), ()),
            ((2, ((0, 8),), ((2, 4),), (8, 9)), ((8, (1, 2)), (9, (1, 2)))),
        ]:
            for k in range(2, 7):
                self.assertEqual(self.is_right(graph, k), told)

    def test_by_chance(self):
        dice = random.Random(1)
        gains = 0
        for _ in range(150):
            graph = random_named_graph(
                dice, dice.randint(1, 5), dice.randint(0, 3), dice.randint(0, 14), dice.randint(0, 4)
            )
            for k in range(2, 7):
                told = self.is_right(graph, k)
                labels = model_labels(graph, k) if len(graph[2]) < 8 else None
                if labels is not None:
                    levels = [labels[root // 2] if root // 2 >= first_node(graph) else root % 2 for root in roots_of(graph)]
                    self.assertEqual(cover_depth(graph, told), max(levels, default=0))
                gains += len(lean_cover(graph, k, 99)) < len(told)
        self.assertGreater(gains, 1)

    def test_changed_covers(self):
        dice = random.Random(2)
        met = set()
        for _ in range(400):
            graph = random_named_graph(dice, 3, 2, dice.randint(0, 8), 3)
            k = dice.randint(2, 4)
            pairs = list(cover(graph, k))
            every = 2 * (first_node(graph) + len(graph[2]))
            nodes = tuple(sorted(dice.sample(range(1, every // 2), dice.randint(1, min(k, every // 2 - 1)))))
            change = dice.randrange(5)
            if change == 0 or not pairs:
                pairs = sorted({**dict(pairs), dice.randrange(every): nodes}.items())
            elif change == 1:
                pairs.pop(dice.randrange(len(pairs)))
            elif change == 2:
                at = dice.randrange(len(pairs))
                pairs[at] = (pairs[at][0], nodes)
            elif change == 3:
                dice.shuffle(pairs)
            else:
                inner = dice.choice(list(cover((graph[0], graph[1], graph[2], tuple(range(every))), k)))
                pairs = sorted({**dict(pairs), inner[0]: inner[1]}.items())
            fault = judge_cover(graph, k, tuple(pairs))
            self.assertEqual(fault, model_fault(graph, k, tuple(pairs)))
            met.add(fault and fault[0])
        self.assertEqual(met, {None, "literal", "nodes", "lacks", "waste"})

    def test_each_fault(self):
        for value in [*[value for value in LOOSE if value != ()], list(COVER_2), (COVER_2,), deep(COVER_2, 20), (3, (1,)),
                      ((3, [1]),), ((3,),), ((3, (1,), 0),), ([3, (1,)],), ((True, ()),), (("3", (1,)),), ((3, (True,)),),
                      ((3, (None,)),), ((3, 1),), ((3, (1.0 > 2,)),)]:
            self.assertEqual(judge_cover(TABLES_G, 2, value), ("form",), value)
        for literal in (-1, 0, 2, 3, 8, 16, 10**39):
            self.assertEqual(judge_cover(TABLES_G, 2, replaced(COVER_2, (1, 0), literal)), ("literal", 1), literal)
        for literal in (-1, 0, 2, 16):
            self.assertEqual(judge_cover(TABLES_G, 2, replaced(COVER_2, (0, 0), literal)), ("literal", 0), literal)
        for nodes in [(), (1,), (1, 2, 6), (6, 5), (5, 6, 7), (-1, 5), (3, 10**39)]:
            self.assertEqual(judge_cover(TABLES_G, 2, replaced(COVER_2, (3, 1), nodes)), ("nodes", 3), nodes)
        for nodes in [(), (2,), (0,), (1, 2)]:
            self.assertEqual(judge_cover(TABLES_G, 2, replaced(COVER_2, (0, 1), nodes)), ("nodes", 0), nodes)
        self.assertEqual(judge_cover(TABLES_G, 2, ()), ("lacks", 3))
        self.assertEqual(judge_cover(TABLES_G, 2, COVER_2[:1] + COVER_2[2:]), ("lacks", 10))
        self.assertEqual(judge_cover(TABLES_G, 4, COVER_4[:2]), ("lacks", 15))
        self.assertEqual(judge_cover(TABLES_G, 4, (COVER_4[0], (10, (1, 2)), *COVER_4[1:])), ("waste", 1))
        self.assertEqual(judge_cover(TABLES_G, 2, ((1, ()), *COVER_2)), ("waste", 0))
        self.assertEqual(judge_cover(TABLES_G, 2, ((1, (1,)), *COVER_2)), ("nodes", 0))
        # What is waste is asked for its nodes, too, so these are not waste, but they may be lacking.
        wide = (COVER_4[0], (12, (3, 4)), *COVER_4[1:])
        self.assertEqual(judge_cover(TABLES_G, 4, wide), ("waste", 1))
        graph = (3, (), ((2, 4), (6, 8)), (2,))
        self.assertEqual(judge_cover(graph, 2, ((10, (3, 4)),)), ("lacks", 8))
        self.assertEqual(judge_cover(graph, 2, ((8, (1, 2)), (10, (3, 4)))), ("waste", 1))

    def test_great_ones(self):
        dice = random.Random(3)
        graph = random_named_graph(dice, 60, 60, 2000, 60)
        for k in (2, 6):
            self.is_right(graph, k)
        self.is_right(T, 2)


if __name__ == "__main__":
    unittest.main()
