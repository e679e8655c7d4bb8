"""Outs that hold ([S9.8], [S9.9])."""

import random
import unittest

from clausemodels import BREAKING_G, HOLDING_G, model_barring, model_first_holds, model_step_holds, shortest_trace
from graphmodels import runs
from layermodels import spoilt
from samples import random_graph
from support import LOOSE, LoomTest, deep
from test_alike import as_tuples, is_bits, is_clause_list, is_list, is_paper, model_states

from bitloom.clauseforms import first_holds, step_holds
from bitloom.properties import holds, judge_holds
from bitloom.solving import solve

# Three registers in a row behind the in bit; the out is 0 three clocks behind a 1.
ROW = (1, ((0, 2), (0, 4), (0, 6)), (), (9,))
# A counter of two bits that never comes to 3: it goes 0, 1, 2, 0; the out is not both.
COUNTER = (0, ((0, 7), (0, 2)), ((3, 5), (2, 4)), (9,))


def model_judge_holds(graph, out, value):
    """The first fault of what shows that an out holds or breaks, or None."""
    if is_paper(value, "breaks", 2) and is_list(value[1]) and value[1] and all(is_bits(lot, graph[0]) for lot in value[1]):
        return ("holds",) if runs(graph, value[1])[-1][out] == 1 else None
    if not is_paper(value, "holds", 2):
        return ("form",)
    paper = value[1]
    if is_paper(paper, "states", 2) and is_list(paper[1]) and all(is_bits(state, len(graph[1])) for state in paper[1]):
        if len(set(paper[1])) < len(paper[1]):
            return ("form",)
        return model_states(graph, lambda outs: outs[out] == 0, paper[1])
    if not is_paper(paper, "steps", 4) or type(paper[1]) is not int or not 1 <= paper[1] <= 40:
        return ("form",)
    if not is_clause_list(paper[2]) or not is_clause_list(paper[3]):
        return ("form",)
    for word, clauses, barring in (("first", model_first_holds, paper[2]), ("step", model_step_holds, paper[3])):
        fault = model_barring(clauses(graph, out, paper[1]), barring)
        if fault:
            return word, fault
    return None


def steps_paper(graph, out, k):
    """A paper of steps with a k, if there is one."""
    first, step = solve(first_holds(graph, out, k)), solve(step_holds(graph, out, k))
    return ("steps", k, first[1], step[1]) if first[0] == step[0] == "never" else None


class HoldsTest(LoomTest):
    def is_told(self, graph, out):
        told = self.is_new(holds, graph, out)
        self.assertIsNone(judge_holds(graph, out, told))
        self.assertIsNone(model_judge_holds(graph, out, told))
        many = shortest_trace(graph, lambda outs: outs[out] == 0)
        self.assertEqual(told[0] == "holds", many is None)
        if many is not None:
            self.assertEqual(len(told[1]), many)
        return told

    def test_the_example(self):
        for out in (0, 1):
            self.assertEqual(self.is_told(HOLDING_G, out)[0], "holds")
            self.assertIsNone(judge_holds(HOLDING_G, out, ("holds", ("states", ((0,),)))))
            self.assertIsNone(judge_holds(HOLDING_G, out, ("holds", steps_paper(HOLDING_G, out, 1))))
        self.assertEqual(self.is_told(BREAKING_G, 0), ("breaks", [(1,)]))
        self.assertEqual(len(self.is_told(BREAKING_G, 1)[1]), 1)
        self.assertIsNone(judge_holds(BREAKING_G, 1, ("breaks", [(0,)])))

    def test_by_hand(self):
        self.assertEqual(self.is_told((0, (), (), (1,)), 0), ("holds", ("states", [()])))
        self.assertEqual(self.is_told((0, (), (), (0,)), 0), ("breaks", [()]))
        told = self.is_told(ROW, 0)
        self.assertEqual((told[0], told[1][0], len(told[1])), ("breaks", (1,), 4))
        told = self.is_told(COUNTER, 0)
        self.assertEqual(told[0], "holds")

    def test_steps_judged(self):
        # Of two registers that are alike at first, and take one another, one step is not enough; two clocks are.
        graph = (1, ((0, 6), (0, 4)), ((3, 3),), (7,))
        for k in range(1, 5):
            for out, told in ((0, graph), (0, COUNTER), (1, HOLDING_G)):
                paper = steps_paper(told, out, k)
                if paper:
                    value = ("holds", paper)
                    self.assertIsNone(judge_holds(told, out, value))
                    self.assertIsNone(judge_holds(told, out, ("holds", (*paper[:2], tuple(paper[2]), tuple(paper[3])))))
                    self.assertEqual(judge_holds(told, out, ("holds", (*paper[:2], [], paper[3]))), ("first", ("form",)))
                    self.assertEqual(judge_holds(told, out, ("holds", (*paper[:3], []))), ("step", ("form",)))
                    self.assertEqual(judge_holds(told, out, ("holds", (*paper[:3], paper[3][:-1] + [(1,)])))[0], "step")
        self.assertEqual(judge_holds(ROW, 0, ("holds", ("steps", 2, [()], [()])))[0], "step")
        self.assertEqual(judge_holds(BREAKING_G, 0, ("holds", ("steps", 1, [()], [()]))), ("first", ("step", 0)))
        # As many steps as may be told.
        self.assertIsNone(judge_holds(HOLDING_G, 0, ("holds", steps_paper(HOLDING_G, 0, 40))))

    def test_form(self):
        paper = steps_paper(HOLDING_G, 0, 1)
        for value in [*LOOSE, ["holds", paper], ("holds", list(paper)), ("holds", paper[:3]), ("holds", ("steps", 0, *paper[2:])),
                      ("holds", ("steps", 41, *paper[2:])), ("holds", ("steps", True, *paper[2:])), ("holds", ("steps", None, *paper[2:])),
                      ("holds", (*paper[:2], None, paper[3])), ("holds", (*paper[:3], [(0,)])), ("holds", ("states", [(0,), (0,)])),
                      ("holds", ("states", [(0, 0)])), ("holds", ("states", [[0]])), ("holds", ("states", None)), ("breaks", []), ("breaks", [()]),
                      ("breaks", [(2,)]), ("breaks", [[0]]), ("breaks", None), ("breaks", [(0,)], 1), ("break", [(0,)]), ("holds", None), deep((), 39)]:
            self.assertEqual(judge_holds(HOLDING_G, 0, value), ("form",), value)
            self.assertEqual(model_judge_holds(HOLDING_G, 0, value), ("form",))

    def test_states_and_traces_judged(self):
        for states, fault in [([], ("start",)), ([(1,)], ("start",)), ([(0,)], None), ([(0,), (1,)], ("state", 1)), ([(1,), (0,)], ("state", 0))]:
            self.assertEqual(judge_holds(HOLDING_G, 1, ("holds", ("states", states))), fault)
        self.assertEqual(judge_holds(COUNTER, 0, ("holds", ("states", [(0, 0), (1, 0)]))), ("state", 1))
        self.assertEqual(judge_holds(ROW, 0, ("breaks", [(1,)])), ("holds",))
        self.assertIsNone(judge_holds(ROW, 0, ("breaks", ((0,), (1,), (1,), (0,), (1,), (0,)))))
        self.assertEqual(judge_holds(ROW, 0, ("breaks", [(1,), (0,), (0,), (0,), (0,)])), ("holds",))

    def test_by_chance(self):
        dice = random.Random(1)
        found = {"holds": 0, "breaks": 0}
        faults = set()
        for _ in range(250):
            graph = random_graph(dice, dice.randint(0, 2), dice.randint(0, 3), dice.randint(0, 8), 2)
            told = self.is_told(graph, 1)
            found[told[0]] += 1
            k = dice.randint(1, 3)
            paper = steps_paper(graph, 1, k)
            self.assertFalse(paper and told[0] == "breaks")
            for value in [told, paper and ("holds", paper)]:
                for _ in range(4 if value else 0):
                    late = spoilt(dice, as_tuples(value))
                    fault = model_judge_holds(graph, 1, late)
                    faults.add(fault and fault[0])
                    self.assertEqual(judge_holds(graph, 1, late), fault, late)
        self.assertGreater(min(found.values()), 50)
        self.assertEqual(faults, {None, "form", "first", "step", "start", "state", "holds"})

    def test_there_always_is_a_k(self):
        dice = random.Random(2)
        for _ in range(80):
            graph = random_graph(dice, dice.randint(0, 2), dice.randint(0, 2), dice.randint(0, 5), 1)
            if holds(graph, 0)[0] == "holds":
                self.assertTrue(any(steps_paper(graph, 0, k) for k in range(1, 2 ** len(graph[1]) + 1)))

    def test_greater_ones(self):
        dice = random.Random(3)
        for _ in range(10):
            graph = random_graph(dice, 6, 6, 40, 3)
            for out in range(3):
                told = holds(graph, out)
                self.assertIsNone(judge_holds(graph, out, told))


if __name__ == "__main__":
    unittest.main()
