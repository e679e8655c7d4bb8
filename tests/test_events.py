"""Flat designs by events ([S3.5] to [S3.8])."""

import random
import unittest

from models import F
from samples import random_flat, random_lots
from support import LoomTest

from bitloom.clocks import row_values, start, states
from bitloom.events import after_round, changes, comes_to, levels, prices, rounds_of, settled, uneasy
from bitloom.flats import widths_of

REST = (1, 6, 0, 1, 7)


def chances(seed, many):
    """Tuples of a flat design, a standing, a lot and a state."""
    dice = random.Random(seed)
    for _ in range(many):
        flat = random_flat(dice, 25)
        standing = random_lots(dice, widths_of(flat), 1)[0]
        lot = random_lots(dice, [width for _, width in flat[0]], 1)[0]
        yield flat, standing, lot, random_lots(dice, [reg[1] for reg in flat[2]], 1)[0]


class StandingTest(LoomTest):
    def test_comes_to(self):
        standing = (0, 5, 3, 7, 1)
        self.assertEqual([comes_to(F, standing, (1,), (6,), k) for k in range(5)], [1, 6, 0, 6, 4])

    def test_uneasy(self):
        self.assertEqual(self.is_new(uneasy, F, REST, (1,), (6,)), [])
        self.assertEqual(uneasy(F, (0,) * 5, (1,), (6,)), [0, 1])
        self.assertEqual(uneasy(F, (1, 6, 0, 1, 0), (1,), (6,)), [4])
        self.assertEqual(uneasy(F, (1, 6, 2, 5, 3), (0,), (6,)), [0, 2])

    def test_a_round(self):
        self.assertEqual(after_round(F, (0,) * 5, (1,), (6,)), (1, 6, 0, 0, 0))
        self.assertEqual(after_round(F, (1, 6, 0, 0, 0), (1,), (6,)), (1, 6, 0, 1, 6))
        self.assertEqual(after_round(F, REST, (1,), (6,)), REST)

    def test_rounds(self):
        told = [(1, 6, 0, 0, 0), (1, 6, 0, 1, 6), REST]
        self.assertEqual(self.is_new(rounds_of, F, (0,) * 5, (1,), (6,)), told)
        self.assertEqual(self.is_new(rounds_of, F, REST, (1,), (6,)), [])

    def test_rest_is_what_rows_tell(self):
        for flat, standing, lot, state in chances(1, 80):
            rest = tuple(row_values(flat, lot, state))
            self.assertEqual(uneasy(flat, rest, lot, state), [])
            rounds = rounds_of(flat, standing, lot, state)
            self.assertLessEqual(len(rounds), 1 + max(levels(flat)))
            self.assertEqual([standing, *rounds][-1], rest)
            for k, one in enumerate(rounds):
                before = [standing, *rounds][k]
                self.assertEqual(one, after_round(flat, before, lot, state))
                self.assertNotEqual(uneasy(flat, before, lot, state), [])
                told = [comes_to(flat, before, lot, state, number) for number in range(len(one))]
                self.assertEqual(list(one), told)
                self.assertEqual(uneasy(flat, before, lot, state), [n for n in range(len(one)) if told[n] != before[n]])
                settled_rows = [n for n, level in enumerate(levels(flat)) if level <= k]
                self.assertTrue(all(one[n] == rest[n] for n in settled_rows))

    def test_levels_and_prices(self):
        self.assertEqual(self.is_new(levels, F), [0, 0, 0, 1, 2])
        self.assertEqual(self.is_new(prices, F), [1, 1, 1, 3, 5])
        rows = [("in", 0)] + [("add", k, k) for k in range(200)]
        flat = ((("a", 8),), (), (), tuple(rows))
        self.assertEqual(levels(flat), list(range(201)))
        self.assertEqual(prices(flat)[-1], 2**201 - 1)
        flat = ((("a", 8), ("b", 1)), (), (("r", 8, 0, 0),), (
            ("in", 0), ("in", 1), ("reg", 0), ("word", 8, 3), ("cut", 3, 2, 4), ("mux", 1, 0, 2), ("not", 5),
        ))
        self.assertEqual(levels(flat), [0, 0, 0, 0, 1, 1, 2])
        self.assertEqual(prices(flat), [1, 1, 1, 1, 2, 4, 5])
        self.assertEqual((levels(((), (), (), ())), prices(((), (), (), ()))), ([], []))


class StepsTest(LoomTest):
    def test_f(self):
        self.assertEqual(self.is_new(settled, F, (0,) * 5, (1,), (6,), []), (REST, [0, 1, 3, 4]))
        # Uneasy are 0 and 1, then 0 and 4, 0, 3, and 4.
        self.assertEqual(settled(F, (0,) * 5, (1,), (6,), [1, 1]), (REST, [1, 4, 0, 3, 4]))
        self.assertEqual(settled(F, (0,) * 5, (1,), (6,), [3, 5, 9, 10**39, 7, 7, 7]), (REST, [1, 4, 0, 3, 4]))
        self.assertEqual(settled(F, REST, (1,), (6,), [1, 2]), (REST, []))
        self.assertEqual(settled(F, (0,) * 5, (1,), (6,), (1, 1)), settled(F, (0,) * 5, (1,), (6,), [1, 1]))

    def test_by_chance(self):
        dice = random.Random(2)
        for flat, standing, lot, state in chances(3, 60):
            picks = [dice.randrange(10**9) for _ in range(dice.choice([0, 5, 300]))]
            rest, steps = settled(flat, standing, lot, state, picks)
            self.assertEqual(rest, tuple(row_values(flat, lot, state)))
            now = list(standing)
            for s, number in enumerate(steps):
                free = uneasy(flat, tuple(now), lot, state)
                self.assertEqual(number, free[picks[s] % len(free)] if s < len(picks) else free[0])
                now[number] = comes_to(flat, tuple(now), lot, state, number)
            self.assertEqual(tuple(now), rest)
            for number, price in enumerate(prices(flat)):
                self.assertLessEqual(steps.count(number), price)
            _, least = settled(flat, standing, lot, state, [])
            self.assertEqual(least, sorted({*least}))


class ChangesTest(LoomTest):
    def test_f(self):
        self.assertEqual(self.is_new(changes, F, [(1,), (0,)]), [5, 5])
        self.assertEqual(changes(F, ((1,), (0,))), [5, 5])
        self.assertEqual(changes(F, []), [])

    def test_by_rounds(self):
        dice = random.Random(6)
        for _ in range(40):
            flat = random_flat(dice, 25)
            lots = random_lots(dice, [width for _, width in flat[0]], 6)
            standing = (0,) * len(flat[3])
            told = []
            for lot, state in zip(lots, states(flat, lots)):
                rounds = rounds_of(flat, standing, lot, state)
                pairs = zip([standing, *rounds], rounds)
                told.append(sum(a != b for one, other in pairs for a, b in zip(one, other)))
                standing = [standing, *rounds][-1]
            self.assertEqual(changes(flat, lots), told)

    def test_great_ones(self):
        rows = [("in", 0), ("reg", 0)] + [("add", k, k - k % 2) for k in range(1, 399)]
        flat = ((("a", 64),), (("x", 399),), (("r", 64, 5, 399),), tuple(rows))
        self.assertEqual(len(changes(flat, [(k,) for k in range(300)])), 300)
        self.assertEqual(start(flat), (5,))


if __name__ == "__main__":
    unittest.main()
