"""Periods, lags, papers against them, and shifts ([S5.2], [S5.4] to [S5.7])."""

import random
import unittest

from graphmodels import (
    MOVING_G, first_node, model_edges, model_lets, model_needed, model_period, model_shift, model_source,
)
from models import T
from samples import random_graph, replaced
from support import LOOSE, LoomTest, deep

from bitloom.graphs import check_graph
from bitloom.periods import (
    early_lags, judge_lags, judge_paper, judge_shift, lags_for, least_period, least_shift, paper_against, period,
    shift_paper,
)

# A ring of three and nodes with a register, of which no way leads to a root: node 3 takes register 1 twice over.
RING = (0, ((0, 10), (1, 2)), ((2, 5), (4, 6), (7, 9)), (10,))
NOTHING = [(0, (), (), ()), (2, (), (), (2, 5, 1)), (1, ((0, 2), (1, 6)), ((2, 3),), (4, 6))]


def graphs(dice, many):
    """Graphs by chance."""
    for _ in range(many):
        yield random_graph(dice, dice.randint(0, 3), dice.randint(0, 5), dice.randint(0, 14), dice.randint(0, 3))


def is_paper(graph, c, paper):
    """Whether a paper is one against c, by S5.5."""
    steps = paper[1]
    first = first_node(graph)
    told = [model_source(graph, graph[2][node - first][side]) for node, side in steps]
    if not all(node in model_needed(graph) for node, _ in steps):
        return False
    if any(told[j][0] != steps[j - 1][0] for j in range(1, len(steps))):
        return False
    registers = sum(len(chain) for _, _, chain in told)
    if paper[0] == "ring":
        return told[0][0] == steps[-1][0] and len(steps) > c * registers
    source, _, chain = model_source(graph, graph[3][paper[2]])
    is_root = told[0][0] not in model_needed(graph)
    return is_root and source == steps[-1][0] and len(steps) > c * (registers + len(chain) + 1)


class PeriodsTest(LoomTest):
    def test_example(self):
        self.assertEqual((period(MOVING_G), least_period(MOVING_G), least_shift(MOVING_G, 2)), (3, 2, 1))
        for lags in [(0, 0, 1), (0, 1, 1)]:
            self.assertIsNone(judge_lags(MOVING_G, 2, lags))
        paper = ("way", ((4, 0), (5, 1), (6, 1)), 0)
        self.assertIs(judge_paper(MOVING_G, 1, paper), True)
        self.assertIs(judge_paper(MOVING_G, 2, paper), False)
        self.assertIsNone(lags_for(MOVING_G, 1))
        self.assertIsNone(early_lags(MOVING_G, 1))
        self.assertIsNone(least_shift(MOVING_G, 1))
        self.assertIsNone(paper_against(MOVING_G, 2))
        self.assertIs(judge_shift(MOVING_G, 2, 1, ((4, 1), (5, 1), (6, 1))), True)
        self.assertIs(judge_shift(MOVING_G, 2, 1, ((5, 0), (6, 1))), False)
        self.assertIsNone(shift_paper(MOVING_G, 2, 2))
        self.assertEqual(least_shift(MOVING_G, 3), 0)

    def test_graphs_without_needed_ands(self):
        for graph in NOTHING:
            noughts = (0,) * len(graph[2])
            self.assertEqual((period(graph), least_period(graph), least_shift(graph, 0)), (0, 0, 0))
            for c in (0, 1, 10**6):
                self.assertEqual(lags_for(graph, c), noughts)
                self.assertEqual(early_lags(graph, c), noughts)
                self.assertIsNone(paper_against(graph, c))
                self.assertIsNone(shift_paper(graph, c, 1))
                self.assertIsNone(judge_lags(graph, c, (7,) * len(graph[2])))

    def test_rings(self):
        self.assertEqual((period(RING), least_period(RING)), (3, 3))
        for c in (0, 1, 2):
            paper = paper_against(RING, c)
            self.assertEqual(paper[0], "ring")
            self.assertTrue(is_paper(RING, c, paper))
        # No way leads there from a root, so lags may be as early as one likes.
        self.assertEqual(least_shift(RING, 3), 0)
        self.assertIsNone(shift_paper(RING, 3, 1))
        self.assertIsNone(judge_lags(RING, 3, (-1000, -1000, -1000)))
        self.assertIsNone(judge_lags(RING, 3, (0, 0, 0)))

    def test_c_that_is_0(self):
        for graph in (MOVING_G, RING, T):
            self.assertIsNone(lags_for(graph, 0))
            self.assertTrue(is_paper(graph, 0, paper_against(graph, 0)))
            self.assertIs(judge_paper(graph, 0, paper_against(graph, 0)), True)

    def test_by_chance(self):
        dice = random.Random(1)
        met = {}
        for graph in graphs(dice, 800):
            noughts = (0,) * len(graph[2])
            greatest = model_period(graph, noughts)
            self.assertEqual(period(graph), greatest)
            least = next(c for c in range(greatest + 1) if model_lets(graph, c))
            self.assertEqual(least_period(graph), least)
            for c in {*range(min(greatest + 2, 5)), greatest, 10**6}:
                self.one_number(graph, c, c >= least, met)
        self.assertGreater(min(met["way"], met["ring"], met["shift"]), 10)

    def one_number(self, graph, c, is_let, met):
        """All that is told of a number c."""
        lags, early, paper = lags_for(graph, c), early_lags(graph, c), paper_against(graph, c)
        if not is_let:
            self.assertEqual((lags, early, least_shift(graph, c)), (None, None, None))
            self.assertTrue(is_paper(graph, c, paper))
            self.assertIs(judge_paper(graph, c, paper), True)
            met[paper[0]] = met.get(paper[0], 0) + 1
            return
        self.assertIsNone(paper)
        needed = model_needed(graph)
        for told in (self.is_new(lags_for, graph, c), self.is_new(early_lags, graph, c)):
            self.assertIsNone(judge_lags(graph, c, told))
            self.assertLessEqual(model_period(graph, told), c)
            for node, lag in enumerate(told, start=first_node(graph)):
                self.assertLessEqual(abs(lag), len(needed) * (len(graph[1]) + 1) if node in needed else 0)
        shift = model_shift(graph, c)
        self.assertEqual((least_shift(graph, c), max([0, *early])), (shift, shift))
        self.assertLessEqual(shift, len(graph[1]))
        for l in range(1, shift + 2):
            steps = self.is_new(shift_paper, graph, c, l)
            self.assertEqual(steps is not None, l <= shift)
            if steps is not None:
                met["shift"] = met.get("shift", 0) + 1
                self.assertIs(judge_shift(graph, c, l, steps), True)
                self.assertIs(judge_shift(graph, c, l + len(graph[2]), steps), False)

    def test_judged_lags(self):
        for value in [*LOOSE, [0, 0, 1], (0, 0), (0, 0, 1, 0), (0, 0, True), (0, None, 1), ("0", 0, 1), deep((0, 0, 1), 30)]:
            self.assertEqual(judge_lags(MOVING_G, 2, value), ("form",))
        self.assertEqual(judge_lags(MOVING_G, 2, (-1, 0, 1)), ("less", 4, 0))
        self.assertEqual(judge_lags(MOVING_G, 2, (1, 0, 1)), ("less", 5, 1))
        self.assertEqual(judge_lags(MOVING_G, 2, (0, 1, 0)), ("less", 6, 1))
        self.assertEqual(judge_lags(MOVING_G, 2, (0, 0, 2)), ("less out", 0))
        self.assertEqual(judge_lags(MOVING_G, 2, (0, 0, 0)), ("long", 6))
        self.assertEqual(judge_lags(MOVING_G, 1, (0, 0, 1)), ("long", 5))
        self.assertEqual(judge_lags(MOVING_G, 0, (0, 0, 1)), ("long", 4))
        self.assertEqual(judge_lags(MOVING_G, 2, (10**40, 0, 1)), ("less", 5, 1))
        self.assertIsNone(judge_lags((0, (), (), ()), 0, ()))
        # Nodes that are not needed count for nothing.
        graph = (1, ((0, 6),), ((2, 4), (3, 4)), (4,))
        self.assertIsNone(judge_lags(graph, 1, (0, -50)))

    def test_judged_lags_by_chance(self):
        dice = random.Random(2)
        met = set()
        for graph in graphs(dice, 300):
            lags = tuple(dice.choice([0, 0, 0, 1, -1, 2]) for _ in graph[2])
            c = dice.randint(0, 4)
            fault = judge_lags(graph, c, lags)
            met.add(fault and fault[0])
            first = first_node(graph)
            lag = {None: 0, **{node: lags[node - first] for node in model_needed(graph)}}
            less = [(node, side) for source, node, side, many in model_edges(graph)
                    if many + lag[node] < lag.get(source, 0)]
            if less:
                node, side = less[0]
                self.assertEqual(fault, ("less out", side) if node is None else ("less", node, side))
                self.assertIsNone(model_period(graph, lags))
            elif model_period(graph, lags) > c:
                self.assertEqual(fault[0], "long")
                self.assertEqual(fault[1], self.first_long(graph, lags, c))
            else:
                self.assertIsNone(fault)
        self.assertEqual(met, {None, "less", "less out", "long"})

    def first_long(self, graph, lags, c):
        """The least needed node at which a way that gets no registers ends with more than c and nodes."""
        first = first_node(graph)

        def length(here):
            found = 0
            for literal in graph[2][here - first]:
                source, _, chain = model_source(graph, literal)
                if source >= first and len(chain) + lags[here - first] - lags[source - first] == 0:
                    found = max(found, length(source))
            return found + 1

        return min(node for node in model_needed(graph) if length(node) > c)

    def test_judged_papers(self):
        paper = ("way", ((4, 0), (5, 1), (6, 1)), 0)
        for value in [*LOOSE, list(paper), paper[:2], (*paper, 0), ("ring", *paper[1:]), ("way", list(paper[1]), 0),
                      ("way", (), 0), ("ring", ()), ("ring", paper[1]), (paper[1], 0), ("way", 3, 0), ([], (), 0),
                      ("way", paper[1], 1), ("way", paper[1], -1), ("way", paper[1], None), ("way", paper[1], False)]:
            self.assertIs(judge_paper(MOVING_G, 1, value), False, value)
        for part in [(4,), (4, 0, 0), [4, 0], None, 4, (4, 2), (4, -1), (4, False), (4, None), (3, 0), (7, 0), (-4, 0),
                     ((4,), 0), (10**39, 0), (5, 0), ([], 0)]:
            self.assertIs(judge_paper(MOVING_G, 1, replaced(paper, (1, 0), part)), False, part)
        self.assertIs(judge_paper(MOVING_G, 1, ("way", ((5, 1), (6, 1)), 0)), False)
        self.assertIs(judge_paper(MOVING_G, 0, ("way", ((5, 0), (6, 1)), 0)), True)
        self.assertIs(judge_paper(MOVING_G, 0, ("way", ((5, 0),), 0)), False)
        self.assertIs(judge_paper(MOVING_G, 0, ("way", ((5, 0), (6, 0)), 0)), False)
        # Going round again is let.
        graph = (0, ((0, 6), (1, 2)), ((2, 5),), (6,))
        self.assertIs(judge_paper(graph, 0, ("ring", ((3, 0), (3, 0), (3, 1)))), True)
        self.assertIs(judge_paper(graph, 1, ("ring", ((3, 0), (3, 0)))), False)
        self.assertIs(judge_paper(graph, 0, ("ring", ((3, 0),), 0)), False)

    def test_papers_at_their_edges(self):
        # Three and nodes on a way without registers, and with one ahead of the out: slopes 3 and 3 / 2.
        straight = (3, (), ((2, 4), (6, 8), (5, 10)), (12,))
        kept = (3, ((0, 14),), ((2, 4), (6, 10), (5, 12)), (8,))
        for graph, edge in [(straight, 3), (kept, 2)]:
            self.assertIsNone(check_graph(graph))
            first = first_node(graph)
            paper = ("way", ((first, 0), (first + 1, 1), (first + 2, 1)), 0)
            for c in range(edge + 2):
                self.assertIs(judge_paper(graph, c, paper), c < edge, c)
                self.assertEqual(judge_paper(graph, c, paper), is_paper(graph, c, paper))
            self.assertEqual(least_period(graph), edge)
        self.assertIs(judge_paper(straight, 2, ("way", ((4, 0), (5, 1)), 0)), False)
        # A ring of four and nodes and two registers: its slope is 2.
        ring = (1, ((0, 14), (0, 10)), ((2, 4), (3, 8), (2, 6), (3, 12)), (10, 14))
        for c in range(4):
            self.assertIs(judge_paper(ring, c, ("ring", ((4, 1), (5, 1), (6, 1), (7, 1)))), c < 2, c)
        # A shift paper with three and nodes: 3 is no more than 1 * (0 + 3), but more than 1 * (0 + 2).
        for c, l, told in [(1, 2, True), (1, 3, False), (3, 1, False), (2, 1, True), (0, 50, True)]:
            self.assertIs(judge_shift(straight, c, l, ((4, 0), (5, 1), (6, 1))), told)

    def test_nodes_that_are_not_needed_stand_in_no_paper(self):
        graph = (2, (), ((2, 4), (2, 5)), (6,))
        self.assertIs(judge_paper(graph, 0, ("way", ((3, 0),), 0)), True)
        self.assertIs(judge_paper((2, (), ((2, 4), (2, 5)), (8,)), 0, ("way", ((3, 0),), 0)), False)
        self.assertIs(judge_shift((2, (), ((2, 4), (2, 5)), (8,)), 1, 0, ((3, 0),)), False)

    def test_judged_shifts(self):
        paper = ((4, 1), (5, 1), (6, 1))
        for value in [*LOOSE, list(paper), ("way", paper), ((5, 1), (6, 1)), paper[:2], ((4, 1), (6, 1)), ((6, 1), (5, 1))]:
            self.assertIs(judge_shift(MOVING_G, 2, 1, value), False, value)
        self.assertIs(judge_shift(MOVING_G, 2, 2, paper), False)
        self.assertIs(judge_shift(MOVING_G, 3, 1, paper), False)
        for k in range(3):
            for part in [(4,), [4, 1], None, (4, 2), (4, True), (1, 0), ("4", 1)]:
                self.assertIs(judge_shift(MOVING_G, 2, 1, replaced(paper, (k,), part)), False, part)

    def test_great_ones(self):
        # A ring of 1,000 and nodes with 300 registers, and a chain of 300 and nodes without any.
        first, regs, ands = 3 + 300, [], []
        ahead = 3 + 299
        for k in range(1000):
            ands.append((2, 2 * ahead) if k % 2 else (4, 2 * ahead + 1))
            ahead = first + k
            if k % 10 in (2, 5, 9) and len(regs) < 299:
                regs.append((k % 2, 2 * ahead))
                ahead = 3 + len(regs) - 1
        regs.append((0, 2 * ahead))
        graph = (2, tuple(regs), tuple(ands), (2 * ahead,))
        least = least_period(graph)
        self.assertEqual(least, 4)
        self.assertIs(judge_paper(graph, 3, paper_against(graph, 3)), True)
        self.assertIsNone(judge_lags(graph, 4, lags_for(graph, 4)))
        self.assertIsNone(judge_lags(graph, 4, early_lags(graph, 4)))


if __name__ == "__main__":
    unittest.main()
