"""Clauses ([S9.1], [S9.2])."""

import random
import unittest

from clausemodels import Q, is_true_clause, model_spread, random_clauses
from support import LOOSE, LoomTest, deep

from bitloom.clauses import check_clauses, follows, is_clause, keeps, spread
from bitloom.errors import BadClauses

WRONG = [None, True, 0, (0,), (1, 1), (1, -1), (2, 1), (2, -1), (1, True), (True,), (1, "2"), (1, None), [1, 2], (1, (2,)), (10**6 + 1,),
         (-(10**6) - 1,), (10**39,), "", "1", ((),), {1: 2}]


class FormTest(LoomTest):
    def test_is_clause(self):
        for clause in [(), (1,), (-1,), (1, 2), (-1, 2, -3), (10**6,), (-(10**6),), (1, -(10**6))]:
            self.assertIs(is_clause(clause), True)
        for value in [*WRONG, *[part for part in LOOSE if part != ()], deep(1, 40)]:
            self.assertIs(is_clause(value), False)
            self.assertFalse(is_true_clause(value))

    def test_check_clauses(self):
        for value in [[], (), [()], ((1, 2), ()), [(1,), (-1,), (1,)]]:
            self.assertIsNone(check_clauses(value))
        for value in [None, True, 1, "", "ab", {}, {(1,): 2}]:
            self.fails(BadClauses, {"path": ()}, check_clauses, value)
        for wrong in WRONG:
            self.fails(BadClauses, {"path": (0,)}, check_clauses, [wrong])
            self.fails(BadClauses, {"path": (2,)}, check_clauses, ((1,), (), wrong, wrong, (1,)))


class SpreadTest(LoomTest):
    def test_by_hand(self):
        self.assertEqual(spread(Q, []), ())
        self.assertIsNone(spread(Q, [-2]))
        self.assertIs(follows(Q, (2,)), True)
        self.assertIs(follows(Q, ()), False)
        self.assertIs(follows([*Q, (2,)], ()), True)
        self.assertEqual(spread([(1,), (-1, 2), (-2, 3, 4)], [-4]), (1, 2, 3, -4))
        self.assertEqual(spread([], [7, -3, 7]), (-3, 7))
        self.assertIsNone(spread([], [3, -3]))
        self.assertIsNone(spread([()], []))
        self.assertIsNone(spread([(1,), (-1,)], []))
        self.assertIs(follows([()], (5,)), True)
        self.assertIs(follows([], ()), False)
        self.assertIs(follows([(1, 2)], (1, 2)), True)
        self.assertIs(follows([(1, 2)], (1, 2, 3)), True)
        self.assertIs(follows([(1, 2)], (1,)), False)
        self.assertEqual(spread([(10**6, -(10**6 - 1))[::-1]], [10**6 - 1]), (10**6 - 1, 10**6))

    def test_keeps(self):
        self.assertIs(keeps(Q, (1, 2)), False)
        self.assertIs(keeps(Q[:3], (1, 2)), True)
        self.assertIs(keeps([], ()), True)
        self.assertIs(keeps([()], (1,)), False)
        self.assertIs(keeps([(1, 2)], (3,)), False)
        self.assertIs(keeps([(1, 2)], (-1, 2)), True)

    def test_by_chance(self):
        dice = random.Random(1)
        found = [0, 0]
        for _ in range(500):
            letters = dice.randint(1, 9)
            clauses = random_clauses(dice, letters, dice.randint(0, 14), 4)
            if dice.random() < 0.1:
                clauses.insert(0, ())
            literals = [dice.choice((1, -1)) * dice.randint(1, letters + 1) for _ in range(dice.randint(0, 4))]
            told = spread(clauses, literals)
            found[told is None] += 1
            self.assertEqual(told, model_spread(clauses, literals))
            # Whatever the sequence of the clauses and of the literals.
            for _ in range(3):
                other = [tuple(clause) for clause in dice.sample(clauses, len(clauses))]
                self.assertEqual(spread(other, dice.sample(literals, len(literals))), told)
            clause = random_clauses(dice, letters, 1, 3)[0]
            self.assertIs(follows(clauses, clause), model_spread(clauses, [-literal for literal in clause]) is None)
            true = tuple(letter * dice.choice((1, -1)) for letter in range(1, letters + 1))
            self.assertIs(keeps(clauses, true), all(set(clause) & set(true) for clause in clauses))
        self.assertGreater(min(found), 100)

    def test_long_ones(self):
        chain = [(-letter, letter + 1) for letter in range(1, 1000)]
        self.assertEqual(spread(chain, [1]), tuple(range(1, 1001)))
        self.assertEqual(spread(chain[::-1], [-1000]), tuple(range(-1, -1001, -1)))
        self.assertIsNone(spread([*chain, (-500, -1000)], [1]))
        wide = tuple(range(1, 1001))
        self.assertEqual(spread([wide], [-letter for letter in range(1, 1000)])[-1], 1000)


if __name__ == "__main__":
    unittest.main()
