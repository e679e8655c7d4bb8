"""Graphs alike within a clock, and for ever ([S9.6], [S9.7])."""

import random
import unittest

from clausemodels import BREAKING_G, HOLDING_G, model_barring, model_first, model_joint, model_parting, model_step, shortest_trace
from graphmodels import all_lots, are_alike, clock, runs, starts
from layermodels import spoilt
from samples import random_graph
from support import LOOSE, LoomTest, deep

from bitloom.alike import alike_ever, alike_step, judge_ever, judge_step
from bitloom.clauseforms import first_clauses, joint, step_clauses
from bitloom.easing import eased, levelled
from bitloom.merging import merged
from bitloom.solving import solve

# A register that is turned about at each clock, told by its own or by the opposite of another one.
TURNING = (0, ((0, 3),), (), (2,))
OPPOSITE = (0, ((1, 3),), (), (3,))
SLOW = (0, ((0, 4), (0, 3)), (), (2,))


def is_bits(value, many):
    """Whether a value of any kind is a tuple of so many bits."""
    return type(value) is tuple and len(value) == many and all(type(bit) is int and bit in (0, 1) for bit in value)


def is_clause_list(value):
    """Whether a value is a list of clauses, perhaps none."""
    return type(value) in (list, tuple) and (not value or model_barring([], value) != ("form",))


def model_judge_step(one, other, value):
    """The first fault of what alike_step may return, or None."""
    if type(value) is not tuple or len(value) != 2 or type(value[0]) is not str:
        return ("form",)
    if value[0] == "alike" and is_clause_list(value[1]):
        fault = model_barring(model_parting(one, other), value[1])
        return fault and ("barring", fault)
    if value[0] != "unlike" or type(value[1]) is not tuple or len(value[1]) != 2:
        return ("form",)
    bits, registers = value[1]
    if not is_bits(bits, one[0]) or not is_bits(registers, len(one[1])):
        return ("form",)
    return ("same",) if clock(one, registers, bits) == clock(other, registers, bits) else None


def model_states(graph, is_wrong, states):
    """The first fault of a paper of states, or None."""
    if starts(graph) not in states:
        return ("start",)
    for n, state in enumerate(states):
        for lot in all_lots(graph[0]):
            outs, late = clock(graph, state, lot)
            if is_wrong(outs) or late not in states:
                return "state", n
    return None


def is_list(value):
    """Whether a value is a list or a tuple."""
    return type(value) in (list, tuple)


def is_paper(value, word, many):
    """Whether a value is a tuple of so many members that begins with a word."""
    return type(value) is tuple and len(value) == many and type(value[0]) is str and value[0] == word


def model_judge_ever(one, other, value):
    """The first fault of what alike_ever may return, or None."""
    graph = model_joint(one, other)
    half = len(one[3])
    every = range(2 * (1 + graph[0] + len(graph[1]) + len(graph[2])))
    if is_paper(value, "unlike", 2) and is_list(value[1]) and value[1] and all(is_bits(lot, graph[0]) for lot in value[1]):
        return ("same",) if runs(one, value[1])[-1] == runs(other, value[1])[-1] else None
    if not is_paper(value, "alike", 2):
        return ("form",)
    paper = value[1]
    if is_paper(paper, "states", 2) and is_list(paper[1]) and all(is_bits(state, len(graph[1])) for state in paper[1]):
        if len(set(paper[1])) < len(paper[1]):
            return ("form",)
        return model_states(graph, lambda outs: outs[:half] != outs[half:], paper[1])
    if not is_paper(paper, "pairs", 4) or not is_list(paper[1]) or not is_clause_list(paper[2]) or not is_clause_list(paper[3]):
        return ("form",)
    for pair in paper[1]:
        if type(pair) is not tuple or len(pair) != 2 or not all(type(part) is int and part in every for part in pair):
            return ("form",)
    for j in range(half):
        if (graph[3][j], graph[3][half + j]) not in paper[1]:
            return "outs", j
    for word, clauses, barring in (("first", model_first, paper[2]), ("step", model_step, paper[3])):
        fault = model_barring(clauses(graph, paper[1]), barring)
        if fault:
            return word, fault
    return None


def pairs_paper(one, other, pairs):
    """A paper of pairs, if there is one with these."""
    graph = joint(one, other)
    first, step = solve(first_clauses(graph, pairs)), solve(step_clauses(graph, pairs))
    return ("pairs", pairs, first[1], step[1]) if first[0] == step[0] == "never" else None


class StepTest(LoomTest):
    def is_told(self, one, other):
        told = self.is_new(alike_step, one, other)
        self.assertIsNone(judge_step(one, other, told))
        self.assertIsNone(model_judge_step(one, other, told))
        self.assertIs(type(told[1]), list if told[0] == "alike" else tuple)
        return told

    def test_by_hand(self):
        # They begin otherwise, but do the same within a clock.
        self.assertEqual(self.is_told(HOLDING_G, BREAKING_G)[0], "alike")
        self.assertEqual(self.is_told(TURNING, TURNING)[0], "alike")
        self.assertEqual(self.is_told(TURNING, OPPOSITE)[0], "unlike")
        self.assertEqual(self.is_told((0, (), (), ()), (0, (), (), ()))[0], "alike")
        # In bits on which nothing hangs are told, too.
        self.assertEqual(self.is_told((3, (), (), (0,)), (3, (), (), (1,)))[1], ((0, 0, 0), ()))
        one, other = (2, (), ((2, 4),), (6,)), (2, (), ((3, 5),), (7,))
        self.assertIn(self.is_told(one, other)[1], (((1, 0), ()), ((0, 1), ())))

    def test_judged_by_hand(self):
        one, other = (2, (), ((2, 4),), (6,)), (2, (), ((3, 5),), (7,))
        self.assertEqual(judge_step(one, other, ("unlike", ((1, 1), ()))), ("same",))
        self.assertIsNone(judge_step(one, other, ("unlike", ((1, 0), ()))))
        self.assertEqual(judge_step(one, other, ("alike", [()])), ("barring", ("step", 0)))
        self.assertEqual(judge_step(one, other, ("alike", [])), ("barring", ("form",)))
        self.assertEqual(judge_step(one, one, ("alike", [(1,)])), ("barring", ("step", 0)))
        self.assertEqual(judge_step(one, one, ("alike", [(-1,)])), ("barring", ("end",)))
        barring = alike_step(one, one)[1]
        self.assertIsNone(judge_step(one, one, ("alike", tuple(barring))))
        for value in [*LOOSE, ["alike", barring], ("alike", barring, 0), ("alike", None), ("alike", [[1]]), ("alike", [(0,)]), ("alikes", barring),
                      ("unlike", [(1, 0), ()]), ("unlike", ((1, 0),)), ("unlike", ((1, 0, 0), ())), ("unlike", ((1, 2), ())), ("unlike", ((1,), ())),
                      ("unlike", ((1, True), ())), ("unlike", ((1, 0), (0,))), ("unlike", ([1, 0], ())), ([], barring), deep(("alike",), 30)]:
            self.assertEqual(judge_step(one, one, value), ("form",))
            self.assertEqual(model_judge_step(one, one, value), ("form",))

    def test_registers_are_shared(self):
        # Two registers take each other, and one that takes itself: unlike in what the second one takes.
        one, other = (0, ((0, 4), (0, 2)), (), (2,)), (0, ((0, 4), (0, 4)), (), (2,))
        told = self.is_told(one, other)
        self.assertEqual(told[0], "unlike")
        self.assertEqual(judge_step(one, other, ("unlike", ((), (1, 1)))), ("same",))
        self.assertIsNone(judge_step(one, other, ("unlike", ((), (1, 0)))))

    def test_by_chance(self):
        dice = random.Random(1)
        found = {"alike": 0, "unlike": 0}
        faults = set()
        for _ in range(200):
            ins, regs, outs = dice.randint(0, 3), dice.randint(0, 2), dice.randint(0, 2)
            one = random_graph(dice, ins, regs, dice.randint(0, 8), outs)
            other = dice.choice([eased, levelled])(one) if dice.random() < 0.5 else random_graph(dice, ins, regs, dice.randint(0, 3), outs)
            if len(other[1]) != regs:
                continue
            told = self.is_told(one, other)
            found[told[0]] += 1
            same = all(clock(one, state, lot) == clock(other, state, lot) for state in all_lots(regs) for lot in all_lots(ins))
            self.assertEqual(told[0] == "alike", same)
            for _ in range(4):
                value = (told[0], tuple(told[1]))
                value = spoilt(dice, value)
                fault = model_judge_step(one, other, value)
                faults.add(fault and fault[0])
                self.assertEqual(judge_step(one, other, value), fault)
        self.assertGreater(min(found.values()), 40)
        self.assertEqual(faults, {None, "form", "barring", "same"})

    def test_greater_ones(self):
        dice = random.Random(2)
        for _ in range(8):
            one = random_graph(dice, 12, 12, 120, 24)
            self.assertIsNone(judge_step(one, levelled(one), alike_step(one, levelled(one))))
            other = random_graph(dice, 12, 12, 120, 24)
            told = alike_step(one, other)
            self.assertEqual((told[0], judge_step(one, other, told)), ("unlike", None))

    def test_odd_sums(self):
        def summed(sequence):
            ands, literal = [], 2 * sequence[0]
            for node in sequence[1:]:
                here = 2 * (25 + len(ands))
                ands += [(literal, 2 * node + 1), (literal ^ 1, 2 * node), (here + 1, here + 3)]
                literal = here + 5
            return 24, (), tuple(ands), (literal,)
        one, other = summed(list(range(1, 25))), summed(list(range(24, 0, -1)))
        self.assertLessEqual(len(one[2]), 120)
        told = alike_step(one, other)
        self.assertEqual((told[0], judge_step(one, other, told)), ("alike", None))


class EverTest(LoomTest):
    def is_told(self, one, other):
        told = self.is_new(alike_ever, one, other)
        self.assertIsNone(judge_ever(one, other, told))
        self.assertIsNone(model_judge_ever(one, other, told))
        return told

    def test_by_hand(self):
        self.assertEqual(self.is_told(TURNING, OPPOSITE)[0], "alike")
        self.assertEqual(self.is_told(TURNING, SLOW), ("unlike", [(), ()]))
        self.assertEqual(self.is_told(HOLDING_G, HOLDING_G), ("alike", ("states", [(0, 0)])))
        self.assertEqual(self.is_told(HOLDING_G, BREAKING_G)[0], "unlike")
        self.assertEqual(self.is_told((2, (), (), ()), (2, ((0, 3),), (), ()))[0], "alike")
        # Registers that only one of them has.
        self.assertEqual(self.is_told((1, (), (), (1,)), (1, ((1, 4),), (), (5, )))[0], "unlike")
        self.assertEqual(self.is_told((1, (), (), (1,)), (1, ((1, 4),), (), (4, )))[0], "alike")

    def test_papers_of_pairs(self):
        # The registers of both are always opposite; the pair of the outs tells this.
        graph = joint(TURNING, OPPOSITE)
        pairs = [(graph[3][0], graph[3][1])]
        paper = pairs_paper(TURNING, OPPOSITE, pairs)
        self.assertIsNone(judge_ever(TURNING, OPPOSITE, ("alike", paper)))
        self.assertIsNone(judge_ever(TURNING, OPPOSITE, ("alike", ("pairs", tuple(pairs), tuple(paper[2]), tuple(paper[3])))))
        self.assertIsNone(model_judge_ever(TURNING, OPPOSITE, ("alike", paper)))
        for pairs in ([], [(graph[3][1], graph[3][0])]):
            self.assertEqual(judge_ever(TURNING, OPPOSITE, ("alike", ("pairs", pairs, *paper[2:]))), ("outs", 0))
        self.assertEqual(judge_ever(TURNING, OPPOSITE, ("alike", (*paper[:2], [], paper[3]))), ("first", ("form",)))
        self.assertEqual(judge_ever(TURNING, OPPOSITE, ("alike", (*paper[:2], [(1,)], paper[3]))), ("first", ("end",)))
        self.assertEqual(judge_ever(TURNING, OPPOSITE, ("alike", (*paper[:3], []))), ("step", ("form",)))
        self.assertEqual(judge_ever(TURNING, OPPOSITE, ("alike", (*paper[:3], [(-1,)]))), ("step", ("end",)))
        # Of two outs the second one is missing.
        other = (TURNING[0], TURNING[1], (), (2, 3)), (OPPOSITE[0], OPPOSITE[1], (), (3, 2))
        graph = joint(*other)
        self.assertEqual(judge_ever(*other, ("alike", ("pairs", [(graph[3][0], graph[3][2])], [()], [()]))), ("outs", 1))

    def test_form(self):
        paper = pairs_paper(TURNING, OPPOSITE, [(2, 5)])
        one, other = TURNING, OPPOSITE
        self.assertIsNone(judge_ever(one, other, ("alike", paper)))
        for value in [*LOOSE, ["alike", paper], ("alike", list(paper)), ("alike", paper[:3]), ("alike", ("pairs", [[2, 5]], *paper[2:])),
                      ("alike", ("pairs", [(2, 5, 0)], *paper[2:])), ("alike", ("pairs", [(2, 6)], *paper[2:])), ("alike", ("pairs", [(2, -5)], *paper[2:])),
                      ("alike", ("pairs", [(True, 5)], *paper[2:])), ("alike", ("pairs", None, *paper[2:])), ("alike", (*paper[:3], None)),
                      ("alike", (*paper[:3], [(0,)])), ("alike", (*paper[:2], [[1]], paper[3])), ("alike", ("states", [(0, 1), (0, 1)])),
                      ("alike", ("states", [[0, 1]])), ("alike", ("states", [(0,)])), ("alike", ("states", [(0, 2)])), ("alike", ("states", [(0, True)])),
                      ("alike", ("states", None)), ("alike", ("states",)), ("alike", ["states", [(0, 1)]]), ("unlike", []), ("unlike", ()),
                      ("unlike", [(0,)]), ("unlike", [[]]), ("unlike", None), ("unlike", [()], 0), ("likes", [()]), ("alike", None), deep((), 39)]:
            self.assertEqual(judge_ever(one, other, value), ("form",), value)
            self.assertEqual(model_judge_ever(one, other, value), ("form",))

    def test_states_judged(self):
        for states, fault in [([], ("start",)), ([(1, 0)], ("start",)), ([(0, 1)], ("state", 0)), ([(0, 1), (1, 0)], None), (((1, 0), (0, 1)), None),
                              ([(0, 1), (1, 1), (1, 0)], ("state", 1)), ([(1, 0), (0, 1), (0, 0)], ("state", 2))]:
            self.assertEqual(judge_ever(TURNING, OPPOSITE, ("alike", ("states", states))), fault)
        self.assertEqual(judge_ever(TURNING, SLOW, ("unlike", [()])), ("same",))
        self.assertIsNone(judge_ever(TURNING, SLOW, ("unlike", ((), ()))))
        self.assertEqual(judge_ever(TURNING, SLOW, ("unlike", [()] * 5)), ("same",))

    def test_by_chance(self):
        dice = random.Random(3)
        found = {"alike": 0, "unlike": 0}
        faults = set()
        for _ in range(250):
            ins, outs = dice.randint(0, 3), dice.randint(0, 2)
            one = random_graph(dice, ins, dice.randint(0, 3), dice.randint(0, 8), outs)
            other = dice.choice([merged, levelled])(one)
            if dice.random() < 0.5:
                other = random_graph(dice, ins, dice.randint(0, 3), dice.randint(0, 4), outs)
            told = self.is_told(one, other)
            found[told[0]] += 1
            self.assertEqual(told[0] == "alike", are_alike(one, other))
            if told[0] == "unlike":
                half = len(one[3])
                shortest = shortest_trace(model_joint(one, other), lambda outs: outs[:half] != outs[half:])
                self.assertEqual(len(told[1]), shortest)
            graph = joint(one, other)
            papers = [told, pairs_paper(one, other, [*zip(graph[3][:outs], graph[3][outs:])])]
            for paper in [papers[0], papers[1] and ("alike", papers[1])]:
                for _ in range(3 if paper else 0):
                    value = spoilt(dice, as_tuples(paper))
                    fault = model_judge_ever(one, other, value)
                    faults.add(fault and fault[0])
                    self.assertEqual(judge_ever(one, other, value), fault, value)
        self.assertGreater(min(found.values()), 60)
        self.assertLessEqual({None, "form", "outs", "first", "step", "start", "state", "same"}, faults)

    def test_greater_ones(self):
        dice = random.Random(4)
        for _ in range(10):
            one = random_graph(dice, 6, 3, 20, 4)
            self.assertEqual(self.is_told(one, levelled(one))[0], "alike")
            self.is_told(one, random_graph(dice, 6, 3, 20, 4))


def as_tuples(value):
    """A value with tuples for its lists."""
    return tuple(as_tuples(part) for part in value) if isinstance(value, (list, tuple)) else value


if __name__ == "__main__":
    unittest.main()
