"""The clauses of graphs, each told exactly ([S9.4] to [S9.8])."""

import random
import unittest

from clausemodels import (
    HOLDING_G, can_be, model_first, model_first_holds, model_joint, model_parting, model_step, model_step_holds, Told,
    put_starting, put_unrolled,
)
from graphmodels import all_values, runs
from samples import random_graph, random_lots
from support import LoomTest

from bitloom.clauseforms import (
    clauses_of, first_clauses, first_holds, joint, literal_of, parting, starting, step_clauses, step_holds, unrolled,
)
from bitloom.clauses import check_clauses

EMPTY = (0, (), (), ())


def random_pairs(dice, graph, many):
    """Pairs of literals of a graph, some of them of one node."""
    every = 2 * (1 + graph[0] + len(graph[1]) + len(graph[2]))
    found = []
    for _ in range(many):
        one = dice.randrange(every)
        found.append((one, dice.choice([one, one ^ 1, dice.randrange(every), dice.randrange(every)])))
    return found


class ByHandTest(LoomTest):
    def test_literals(self):
        self.assertEqual([literal_of(literal) for literal in range(6)], [1, -1, 2, -2, 3, -3])

    def test_the_example(self):
        self.assertEqual(self.is_new(clauses_of, HOLDING_G), [(-1,), (2, -4), (3, -4), (-2, -3, 4)])
        late = [(-5,), (6, -8), (7, -8), (-6, -7, 8), (4, -7), (-4, 7)]
        self.assertEqual(self.is_new(unrolled, HOLDING_G, 2), clauses_of(HOLDING_G) + late)
        self.assertEqual(unrolled(HOLDING_G, 1), clauses_of(HOLDING_G))
        self.assertEqual(self.is_new(starting, HOLDING_G), [(-3,)])
        self.assertEqual(starting((1, ((1, 0), (0, 0)), (), ())), [(3,), (-4,)])
        self.assertEqual(joint(HOLDING_G, HOLDING_G), (1, ((0, 8), (0, 10)), ((2, 4), (2, 6)), (9, 5, 11, 7)))
        self.assertEqual(self.is_new(first_holds, HOLDING_G, 0, 1), clauses_of(HOLDING_G) + [(-3,), (4,)])
        self.assertEqual(self.is_new(step_holds, HOLDING_G, 1, 1), unrolled(HOLDING_G, 2) + [(-3,), (7,)])

    def test_literals_of_one_letter(self):
        # An and node of one literal twice, of a node and what it is not, and of node 0.
        graph = (1, (), ((2, 2), (2, 3), (0, 2), (5, 4)), ())
        told = [(-1,), (2, -3), (2, -3), (-2, 3), (2, -4), (-2, -4), (1, -5), (2, -5), (-1, -2, 5), (-3, -6), (3, -6)]
        self.assertEqual(clauses_of(graph), told)

    def test_empty_ones(self):
        self.assertEqual(parting(EMPTY, EMPTY), [(-1,), ()])
        self.assertEqual(first_clauses(EMPTY, []), [(-1,), ()])
        self.assertEqual(step_clauses(EMPTY, []), [(-1,), (-2,), ()])
        self.assertEqual(joint(EMPTY, EMPTY), EMPTY)
        self.assertEqual(starting(EMPTY), [])
        # Without registers no two clocks are unlike.
        graph = (1, (), (), (2,))
        self.assertEqual(step_holds(graph, 0, 2)[-4:], [(2,), (4,), (-6,), ()])

    def test_clocks_two_by_two(self):
        graph = (0, ((0, 3), (1, 2)), (), (2,))
        late = step_holds(graph, 0, 3)[len(unrolled(graph, 4)) + 4:]
        pairs = [(2, 5, 3, 6, 13), (2, 8, 3, 9, 15), (5, 8, 6, 9, 17)]
        told = []
        for one, other, left, right, d in pairs:
            told += [(one, other, -d), (-one, -other, -d), (left, right, -d - 1), (-left, -right, -d - 1), (d, d + 1)]
        self.assertEqual(late, told)

    def test_pairs_go_on_with_their_letters(self):
        graph = (1, (), (), ())
        # Of a pair of one literal twice two clauses are left out; its letter 3 counts, and that of the next one is 4.
        self.assertEqual(first_clauses(graph, [(2, 2)]), [(-1,), (2, -3), (-2, -3), (3,)])
        told = [(-1,), (2, -3), (-2, -3), (-2, 4), (2, 4), (3, 4)]
        self.assertEqual(first_clauses(graph, [(2, 2), (2, 3)]), told)
        self.assertEqual(first_clauses(graph, [(2, 2), (2, 3), (0, 2)]), model_first(graph, [(2, 2), (2, 3), (0, 2)]))


class ByChanceTest(LoomTest):
    def test_all_forms(self):
        dice = random.Random(1)
        for _ in range(200):
            ins, regs, outs = dice.randint(0, 3), dice.randint(0, 3), dice.randint(0, 3)
            one, other = [random_graph(dice, ins, regs, dice.randint(0, 5), outs) for _ in range(2)]
            told = Told()
            put_unrolled(told, one, 1)
            self.assertEqual(self.is_new(clauses_of, one), told.clauses)
            clocks = dice.randint(1, 4)
            told = Told()
            put_unrolled(told, one, clocks)
            self.assertEqual(self.is_new(unrolled, one, clocks), told.clauses)
            told = Told()
            put_starting(told, one)
            self.assertEqual(self.is_new(starting, one), told.clauses)
            self.assertEqual(self.is_new(parting, one, other), model_parting(one, other))
            third = random_graph(dice, ins, dice.randint(0, 3), dice.randint(0, 4), outs)
            self.assertEqual(joint(one, third), model_joint(one, third))
            pairs = random_pairs(dice, one, dice.randint(0, 3))
            self.assertEqual(self.is_new(first_clauses, one, pairs), model_first(one, pairs))
            self.assertEqual(self.is_new(step_clauses, one, pairs), model_step(one, pairs))
            self.assertEqual(step_clauses(one, tuple(pairs)), model_step(one, pairs))
            for out in range(outs):
                k = dice.randint(1, 4)
                self.assertEqual(self.is_new(first_holds, one, out, k), model_first_holds(one, out, k))
                self.assertEqual(self.is_new(step_holds, one, out, k), model_step_holds(one, out, k))
            for clauses in (parting(one, other), step_clauses(one, pairs)):
                self.assertIsNone(check_clauses(clauses))

    def test_truths_that_keep_them_are_the_values(self):
        dice = random.Random(2)
        for _ in range(60):
            graph = random_graph(dice, 2, 2, dice.randint(0, 5), 1)
            lots = random_lots(dice, [1, 1], 2)
            state = random_lots(dice, [1, 1], 1)[0]
            values = all_values(graph, state, lots[0])
            late = tuple(values[literal // 2] ^ literal % 2 for _, literal in graph[1])
            every = values + all_values(graph, late, lots[1])
            true = {k + 1 if value else -k - 1 for k, value in enumerate(every)}
            self.assertTrue(all(set(clause) & true for clause in unrolled(graph, 2)))
            # Another value of an and node is not kept.
            first = 1 + 2 + 2
            for node in range(first, len(values)):
                wrong = true ^ {node + 1, -node - 1}
                self.assertFalse(all(set(clause) & wrong for clause in clauses_of(graph)))

    def test_joint_graphs_run_as_both(self):
        dice = random.Random(3)
        for _ in range(60):
            ins, outs = dice.randint(0, 2), dice.randint(0, 3)
            one, other = [random_graph(dice, ins, dice.randint(0, 3), dice.randint(0, 6), outs) for _ in range(2)]
            lots = random_lots(dice, [1] * ins, 6)
            both = [left + right for left, right in zip(runs(one, lots), runs(other, lots))]
            self.assertEqual(runs(joint(one, other), lots), both)

    def test_parting_clauses_cannot_be_just_if_alike(self):
        dice = random.Random(4)
        found = [0, 0]
        for _ in range(300):
            one, other = [random_graph(dice, 1, 1, dice.randint(0, 1), 1) for _ in range(2)]
            is_alike = all(
                [value[literal // 2] ^ literal % 2 for literal in (*one[3], one[1][0][1])]
                == [late[literal // 2] ^ literal % 2 for literal in (*other[3], other[1][0][1])]
                for bit in (0, 1) for state in (0, 1)
                for value in [all_values(one, (state,), (bit,))] for late in [all_values(other, (state,), (bit,))]
            )
            found[is_alike] += 1
            self.assertEqual(can_be(parting(one, other)), not is_alike)
        self.assertGreater(min(found), 3)


if __name__ == "__main__":
    unittest.main()
