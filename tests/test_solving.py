"""Clauses solved, and barrings ([S9.1] to [S9.3])."""

import random
import unittest

from clausemodels import Q, can_be, is_true_clause, model_barring, pigeons, random_clauses
from support import LOOSE, LoomTest, deep

from bitloom.solving import judge_barring, solve


class SolveTest(LoomTest):
    def is_solved(self, clauses):
        """What solve tells is right, by the second model; returns the word."""
        told = self.is_new(solve, clauses)
        self.assertIs(type(told), tuple)
        word, paper = told
        if word == "can":
            letters = sorted({abs(literal) for clause in clauses for literal in clause})
            self.assertEqual([abs(literal) for literal in paper], letters)
            self.assertIs(type(paper), tuple)
            self.assertTrue(all(set(clause) & set(paper) for clause in clauses))
        else:
            self.assertEqual(word, "never")
            self.assertIs(type(paper), list)
            self.assertIsNone(model_barring(clauses, paper))
            self.assertIsNone(judge_barring(clauses, paper))
        return word

    def test_by_hand(self):
        self.assertEqual(solve([]), ("can", ()))
        self.assertEqual(solve([(5,), (-7,)]), ("can", (5, -7)))
        self.assertEqual(solve([()]), ("never", [()]))
        self.assertEqual(self.is_solved([(1,), (-1,)]), "never")
        self.assertEqual(self.is_solved([(1,), (2, 3), ()]), "never")
        self.assertEqual(self.is_solved(Q), "never")
        self.assertEqual(self.is_solved(Q[:3]), "can")
        self.assertEqual(self.is_solved([(1,), (1,), (-1, 2), (-1, 2)]), "can")
        self.assertEqual(self.is_solved(tuple(Q)), "never")
        self.assertEqual(self.is_solved([(999, 1000)]), "can")

    def test_by_chance(self):
        dice = random.Random(1)
        found = {"can": 0, "never": 0}
        for _ in range(500):
            letters = dice.randint(1, 8)
            clauses = random_clauses(dice, letters, dice.randint(1, 5 * letters), dice.randint(1, 4))
            word = self.is_solved(clauses)
            found[word] += 1
            self.assertEqual(word == "can", can_be(clauses))
        self.assertGreater(min(found.values()), 100)

    def test_greater_ones(self):
        for many in range(2, 7):
            self.assertEqual(self.is_solved(pigeons(many)), "never")
            self.assertEqual(self.is_solved(pigeons(many)[1:]), "can")
        dice = random.Random(2)
        found = set()
        for many in (230, 260, 300):
            for _ in range(4):
                clauses = []
                while len(clauses) < many:
                    clauses.extend(clause for clause in random_clauses(dice, 60, 1, 3) if len(clause) == 3)
                found.add(self.is_solved(clauses))
        self.assertEqual(found, {"can", "never"})
        # So many clauses are learned here that some of them are forgotten.
        clauses = pigeons(8)
        word, barring = solve(clauses)
        self.assertEqual((word, judge_barring(clauses, barring)), ("never", None))

    def test_odd_sums(self):
        # Letters on a ring of pairs of which an odd number is unlike: no truths are so.
        for many in (3, 8, 20):
            clauses = []
            for k in range(1, many + 1):
                one, other = sorted((k, k % many + 1))
                clauses += [(one, other), (-one, -other)] if k == 1 else [(one, -other), (-one, other)]
            self.assertEqual(self.is_solved(clauses), "never")


class JudgeTest(LoomTest):
    def test_by_hand(self):
        self.assertIsNone(judge_barring(Q, [(2,), ()]))
        self.assertIsNone(judge_barring(Q, ((2,), ())))
        self.assertEqual(judge_barring(Q, [()]), ("step", 0))
        self.assertEqual(judge_barring(Q, [(2,)]), ("end",))
        self.assertEqual(judge_barring(Q, [(2,), (3,), ()]), None)
        self.assertEqual(judge_barring(Q[:3], [(2,), (3,), ()]), ("step", 1))
        self.assertEqual(judge_barring(Q[:3], [(2,), (1,), ()]), ("step", 2))
        self.assertEqual(judge_barring([(1,), (-1,)], [(5, 7), ()]), None)
        self.assertEqual(judge_barring([()], [()]), None)
        self.assertEqual(judge_barring([], [()]), ("step", 0))
        # Behind () all follows, but () must be the last one.
        self.assertEqual(judge_barring(Q, [(2,), (), (7,)]), ("end",))
        self.assertEqual(judge_barring(Q, [(10**6,), (2,), ()]), ("step", 0))

    def test_form(self):
        for value in [*LOOSE, [None], [(2,), [1]], [(2,), (0,)], [(2,), (2, 1)], [(2,), (True,), ()], ((2,), ((),)), {(2,): 1}, deep((), 39)]:
            told = model_barring(Q, value)
            self.assertEqual(judge_barring(Q, value), told)
            self.assertTrue(told == ("form",) or value in [((),)])
        for value in ([], (), None, "", {}):
            self.assertEqual(judge_barring(Q, value), ("form",))

    def test_by_chance(self):
        dice = random.Random(3)
        faults = set()
        for _ in range(300):
            letters = dice.randint(2, 6)
            clauses = random_clauses(dice, letters, dice.randint(5, 30), 3)
            word, barring = solve(clauses)
            barring = list(barring) if word == "never" else [()]
            for _ in range(4):
                value = list(barring)
                for _ in range(dice.randint(0, 2)):
                    k = dice.randrange(len(value) + 1)
                    value[k:k + dice.randint(0, 1)] = random_clauses(dice, letters, dice.randint(0, 1), 2)
                fault = model_barring(clauses, value)
                self.assertTrue(all(map(is_true_clause, value)))
                faults.add(fault and fault[0])
                self.assertEqual(judge_barring(clauses, value), fault)
                self.assertEqual(judge_barring(tuple(clauses), tuple(value)), fault)
        self.assertEqual(faults, {None, "form", "step", "end"})


if __name__ == "__main__":
    unittest.main()
