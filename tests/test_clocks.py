"""Runs of flat designs, clock by clock ([S3.1] to [S3.4])."""

import random
import unittest

from models import F, Model
from samples import TEXTS, random_flat, random_lots
from support import LoomTest

from bitloom.clocks import first_unlike, for_ever, outputs, row_values, run_from, start, states, step
from bitloom.errors import TooGreat
from bitloom.flats import widths_of
from bitloom.texts import read_design
from bitloom.unrolling import flat_of


def made_by(row, *values):
    """What a row behind those of some ins, told as pairs (width, value), is."""
    ins = tuple((f"i{k}", width) for k, (width, _) in enumerate(values))
    rows = tuple(("in", k) for k in range(len(ins))) + (row,)
    return row_values((ins, (), (), rows), tuple(value for _, value in values), ())[-1]


def counter(width, lap):
    """A flat design whose register counts up to lap - 1, and then begins anew."""
    rows = (
        ("reg", 0), ("word", width, 1), ("add", 0, 1), ("word", width, lap - 1), ("eq", 0, 3), ("word", width, 0),
        ("mux", 4, 5, 2),
    )
    return (), (("x", 0),), (("r", width, 0, 6),), rows


class RowsTest(LoomTest):
    def test_f(self):
        self.assertEqual(self.is_new(row_values, F, (1,), (6,)), [1, 6, 0, 1, 7])

    def test_words_that_go_bit_by_bit(self):
        self.assertEqual(made_by(("word", 5, 17)), 17)
        self.assertEqual(made_by(("not", 0), (4, 5)), 10)
        self.assertEqual(made_by(("not", 0), (64, 0)), 2**64 - 1)
        self.assertEqual(made_by(("and", 0, 1), (4, 12), (4, 10)), 8)
        self.assertEqual(made_by(("or", 0, 1), (4, 12), (4, 10)), 14)
        self.assertEqual(made_by(("xor", 0, 1), (4, 12), (4, 10)), 6)

    def test_words_that_reckon(self):
        self.assertEqual(made_by(("add", 0, 1), (4, 9), (4, 9)), 2)
        self.assertEqual(made_by(("sub", 0, 1), (4, 3), (4, 5)), 14)
        self.assertEqual(made_by(("mul", 0, 1), (4, 7), (4, 7)), 1)
        self.assertEqual(made_by(("mul", 0, 1), (64, 2**64 - 1), (64, 2**64 - 1)), 1)
        self.assertEqual([made_by(("eq", 0, 1), (4, 3), (4, k)) for k in (2, 3, 4)], [0, 1, 0])
        self.assertEqual([made_by(("lt", 0, 1), (4, 3), (4, k)) for k in (2, 3, 4)], [0, 0, 1])
        self.assertEqual([made_by(("mux", 2, 0, 1), (4, 3), (4, 5), (1, k)) for k in (0, 1)], [5, 3])

    def test_words_that_choose_bits(self):
        self.assertEqual(made_by(("join", 0, 1), (2, 3), (3, 1)), 25)
        self.assertEqual(made_by(("cut", 0, 2, 3), (8, 0b10110111)), 0b101)
        self.assertEqual(made_by(("cut", 0, 63, 1), (64, 2**63)), 1)
        self.assertEqual([made_by(("all", 0), (3, k)) for k in (0, 6, 7)], [0, 0, 1])
        self.assertEqual([made_by(("any", 0), (3, k)) for k in (0, 6, 7)], [0, 1, 1])
        self.assertEqual([made_by(("odd", 0), (3, k)) for k in (0, 4, 6, 7)], [0, 1, 0, 1])
        for k in range(64):
            self.assertEqual(made_by(("odd", 0), (64, 2**k)), 1)
            self.assertEqual(made_by(("odd", 0), (64, 2**64 - 1 - 2**k)), 1)

    def test_words_that_shift(self):
        for i, left, right, picked in [(0, 11, 11, 1), (1, 6, 5, 1), (2, 12, 2, 0), (3, 8, 1, 1), (4, 0, 0, 0),
                                       (63, 0, 0, 0), (2**64 - 1, 0, 0, 0)]:
            self.assertEqual(made_by(("shl", 0, 1), (4, 11), (64, i)), left)
            self.assertEqual(made_by(("shr", 0, 1), (4, 11), (64, i)), right)
            self.assertEqual(made_by(("pick", 0, 1), (4, 11), (64, i)), picked)
        self.assertEqual(made_by(("shl", 0, 1), (64, 3), (1, 1)), 6)

    def test_rows_take_what_stands_ahead(self):
        flat = ((("a", 2),), (), (("r", 2, 1, 0),), (("reg", 0), ("in", 0), ("add", 0, 1), ("add", 2, 2)))
        self.assertEqual(row_values(flat, (2,), (3,)), [3, 2, 1, 2])


class RunTest(LoomTest):
    def test_f(self):
        lots = [(1,), (0,), (1,)]
        self.assertEqual(start(F), (6,))
        self.assertEqual(self.is_new(step, F, (1,), (6,)), ((7,), (7,)))
        self.assertEqual(step(F, (1,), (7,)), ((0,), (0,)))
        self.assertEqual(self.is_new(outputs, F, lots), [(7,), (7,), (0,)])
        self.assertEqual(self.is_new(states, F, lots), [(6,), (7,), (7,), (0,)])
        self.assertEqual(self.is_new(run_from, F, (7,), lots), ([(0,), (0,), (1,)], (1,)))
        self.assertEqual(lots, [(1,), (0,), (1,)])

    def test_no_lots(self):
        self.assertEqual(outputs(F, []), [])
        self.assertEqual(states(F, []), [(6,)])
        self.assertEqual(run_from(F, (3,), ()), ([], (3,)))
        nothing = ((), (), (), ())
        self.assertEqual((start(nothing), outputs(nothing, [()] * 2)), ((), [(), ()]))

    def test_lots_may_be_a_tuple(self):
        lots = ((1,), (0,), (1,))
        for call in (outputs, states, for_ever):
            self.assertEqual(call(F, lots), call(F, list(lots)))
        self.assertEqual(run_from(F, (6,), lots), run_from(F, (6,), list(lots)))
        self.assertIsNone(first_unlike(F, F, lots))

    def test_registers_step_at_once(self):
        flat = ((), (("x", 0),), (("r", 2, 1, 1), ("s", 2, 2, 0)), (("reg", 0), ("reg", 1)))
        self.assertEqual(states(flat, [()] * 2), [(1, 2), (2, 1), (1, 2)])

    def test_a_run_is_two_runs(self):
        dice = random.Random(7)
        for _ in range(60):
            flat = random_flat(dice, 25)
            lots = random_lots(dice, [width for _, width in flat[0]], 9)
            told, last = run_from(flat, start(flat), lots[:4])
            more, end = run_from(flat, last, lots[4:])
            self.assertEqual(told + more, outputs(flat, lots))
            self.assertEqual([start(flat), last, end], [states(flat, lots)[k] for k in (0, 4, 9)])
            widths = widths_of(flat)
            for row, lot in zip(states(flat, lots), lots):
                values = row_values(flat, lot, row)
                self.assertTrue(all(0 <= value < 2**width for value, width in zip(values, widths)))

    def test_what_designs_do(self):
        dice = random.Random(8)
        for text in TEXTS:
            design = read_design(text)
            flat = flat_of(design)
            lots = random_lots(dice, [width for _, width in flat[0]], 20)
            self.assertEqual(outputs(flat, lots), Model(design).run(lots))

    def test_first_unlike(self):
        other = F[:3] + (F[3][:4] + (("or", 1, 3),),)
        self.assertIsNone(first_unlike(F, other, [(1,), (0,), (0,)]))
        self.assertEqual(first_unlike(F, other, [(1,), (0,), (1,), (1,)]), 2)
        self.assertEqual(first_unlike(F, (F[0], (), (), ()), [(1,)]), 0)
        self.assertIsNone(first_unlike(F, other, []))
        named = ((("b", 1),), (("other", 4),), F[2], F[3])
        self.assertIsNone(first_unlike(F, named, [(1,)] * 9))


class ForEverTest(LoomTest):
    def test_f(self):
        self.assertEqual(for_ever(F, [(1,)]), (0, 8))
        self.assertEqual(for_ever(F, [(1,), (0,)]), (0, 8))
        self.assertEqual(for_ever(F, [(1,), (1,)]), (0, 4))
        self.assertEqual(for_ever(F, [(0,)]), (0, 1))

    def test_a_first_behind_the_start(self):
        flat = ((), (), (("r", 4, 9, 2),), (("reg", 0), ("word", 4, 1), ("shr", 0, 1)))
        self.assertEqual(for_ever(flat, [()]), (4, 1))
        self.assertEqual(for_ever(flat, [(), ()]), (2, 1))

    def test_the_two_together_up_to_500(self):
        self.assertEqual(for_ever(counter(16, 500), [()]), (0, 500))
        self.fails(TooGreat, {}, for_ever, counter(16, 501), [()])
        self.assertEqual(for_ever(counter(16, 1500), [()] * 3), (0, 500))
        self.fails(TooGreat, {}, for_ever, counter(64, 2**60), [()] * 8)
        late = counter(16, 500)
        self.assertEqual(for_ever(late[:2] + ((("r", 16, 499, 6),),) + late[3:], [()]), (0, 500))
        begun = late[:2] + ((("r", 16, 2**16 - 1, 6),),) + late[3:]
        self.fails(TooGreat, {}, for_ever, begun, [()])
        begun = counter(16, 499)[:2] + ((("r", 16, 2**16 - 1, 6),),) + counter(16, 499)[3:]
        self.assertEqual(for_ever(begun, [()]), (1, 499))


if __name__ == "__main__":
    unittest.main()
