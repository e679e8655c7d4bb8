"""Graphs made of flat designs ([S4.3], [S4.4], [S4.10])."""

import random
import unittest

from graphmodels import all_values, literal_value, runs
from models import C_FLAT, F
from samples import TEXTS, random_flat, random_lots
from support import LoomTest

from bitloom.blasting import graph_by_rows, graph_of, in_widths, out_widths, size_bound
from bitloom.clocks import outputs, row_values
from bitloom.flats import check_flat, widths_of
from bitloom.graphs import check_graph, has_one_names
from bitloom.texts import read_design
from bitloom.unrolling import flat_of

WORDS_OF_TWO = ("and", "or", "xor", "add", "sub", "mul", "eq", "lt")


def bits(width, value):
    """The bits of a value, the low one first."""
    return [value // 2**k % 2 for k in range(width)]


def lot_bits(widths, values):
    """The bits of some values, one's behind the other."""
    return tuple(bit for width, value in zip(widths, values) for bit in bits(width, value))


def one_row(row, *widths):
    """A flat design with ins of some widths and one row more, which is told."""
    ins = tuple((f"i{k}", width) for k, width in enumerate(widths))
    return ins, (("o", len(ins)),), (), tuple(("in", k) for k in range(len(ins))) + (row,)


class BlastingTest(LoomTest):
    def agrees(self, flat, lots, dice):
        """The graph of a flat design is as told, at some lots, and at values that no run comes to."""
        graph, rows = self.is_new(graph_by_rows, flat)
        for made in (graph, graph_of(flat)):
            self.assertIsNone(check_graph(made))
            self.assertIs(has_one_names(made), True)
            self.assertLessEqual(len(made[2]), size_bound(flat))
            self.assertEqual(made[0], sum(width for _, width in flat[0]))
            starts = [bit for _, width, start, _ in flat[2] for bit in bits(width, start)]
            self.assertEqual([bit for bit, _ in made[1]], starts)
            told = runs(made, [lot_bits(in_widths(flat), lot) for lot in lots])
            self.assertEqual(told, [lot_bits(out_widths(flat), outs) for outs in outputs(flat, lots)])
        self.assertEqual([len(row) for row in rows], widths_of(flat))
        self.assertIsInstance(rows, tuple)
        kept = [reg[1] for reg in flat[2]]
        for lot in lots:
            state = random_lots(dice, kept, 1)[0]
            values = all_values(graph, lot_bits(kept, state), lot_bits(in_widths(flat), lot))
            for row, width, worth in zip(rows, widths_of(flat), row_values(flat, lot, state)):
                self.assertEqual([literal_value(values, literal) for literal in row], bits(width, worth))

    def test_examples(self):
        dice = random.Random(1)
        self.agrees(F, [(1,), (0,), (1,)], dice)
        self.agrees(C_FLAT, [(1,)] * 5 + [(0,), (1,)], dice)
        self.assertEqual((size_bound(F), size_bound(C_FLAT)), (12 * 3, 12 * 8 + 3 * 8))
        self.assertEqual((self.is_new(in_widths, F), self.is_new(out_widths, F)), ([1], [3]))
        flat = one_row(("join", 0, 1), 3, 5)
        self.assertEqual((in_widths(flat), out_widths(flat)), ([3, 5], [8]))

    def test_small_and_odd_ones(self):
        dice = random.Random(2)
        for flat in [
            ((), (), (), ()), ((), (("o", 0), ("p", 0)), (), (("word", 3, 5),)), ((), (), (("r", 2, 1, 0),), (("reg", 0),)),
            ((("a", 64),), (("o", 0),), (("r", 64, 2**63, 0),), (("in", 0),)),
        ]:
            self.agrees(flat, random_lots(dice, in_widths(flat), 3), dice)

    def test_the_bound_of_each_word(self):
        for row, widths, bound in [
            (("and", 0, 1), (5, 5), 5), (("or", 0, 1), (5, 5), 5), (("xor", 0, 1), (5, 5), 15),
            (("add", 0, 1), (5, 5), 60), (("sub", 0, 1), (5, 5), 60), (("mul", 0, 1), (5, 5), 325),
            (("eq", 0, 1), (5, 5), 20), (("lt", 0, 1), (5, 5), 60), (("all", 0), (5,), 5), (("any", 0), (5,), 5),
            (("odd", 0), (5,), 15), (("shl", 0, 1), (5, 3), 60), (("shr", 0, 1), (5, 3), 60),
            (("pick", 0, 1), (5, 3), 60), (("mux", 0, 1, 2), (1, 5, 5), 15), (("not", 0), (5,), 0),
            (("join", 0, 1), (5, 3), 0), (("cut", 0, 1, 2), (5,), 0), (("word", 5, 3), (), 0), (("in", 0), (5,), 0),
        ]:
            self.assertEqual(size_bound(one_row(row, *widths)), bound, row)

    def test_each_word_at_all_values(self):
        dice = random.Random(3)
        for width in (1, 2, 3):
            pairs = [(a, b) for a in range(2**width) for b in range(2**width)]
            for word in WORDS_OF_TWO:
                self.agrees(one_row((word, 0, 1), width, width), pairs, dice)
            self.agrees(one_row(("mux", 2, 0, 1), width, width, 1), [(*pair, c) for pair in pairs for c in (0, 1)], dice)
            for word in ("not", "all", "any", "odd"):
                self.agrees(one_row((word, 0), width), [(a,) for a in range(2**width)], dice)
            for by in (1, 2, 3, 4):
                pairs = [(a, b) for a in range(2**width) for b in range(2**by)]
                for word in ("shl", "shr", "pick", "join"):
                    self.agrees(one_row((word, 0, 1), width, by), pairs, dice)

    def test_each_word_at_many_widths(self):
        dice = random.Random(4)
        for width in (1, 4, 7, 8, 9, 16, 31, 32, 33, 64):
            lots = random_lots(dice, [width, width, 1], 6) + [(0, 0, 1), (2**width - 1, 2**width - 1, 0), (2**width - 1, 1, 1)]
            for word in WORDS_OF_TWO:
                self.agrees(one_row((word, 0, 1), width, width, 1), lots, dice)
            self.agrees(one_row(("mux", 2, 0, 1), width, width, 1), lots, dice)
            for word in ("not", "all", "any", "odd"):
                self.agrees(one_row((word, 0), width, width, 1), lots, dice)
            for by in (1, 3, 5, 6, 7, 64):
                places = [0, 1, width - 1, width, width + 1, 2**by - 1, dice.randrange(2**by)]
                lots = [(dice.randrange(2**width), place % 2**by) for place in places]
                for word in ("shl", "shr", "pick"):
                    self.agrees(one_row((word, 0, 1), width, by), lots, dice)

    def test_parts_that_are_one_row(self):
        dice = random.Random(5)
        for word in (*WORDS_OF_TWO, "shl", "shr", "pick", "join"):
            self.agrees(one_row((word, 0, 0), 4), [(a,) for a in range(16)], dice)

    def test_by_chance(self):
        dice = random.Random(6)
        for _ in range(120):
            flat = random_flat(dice, dice.randint(1, 40))
            self.assertIsNone(check_flat(flat))
            self.agrees(flat, random_lots(dice, in_widths(flat), 6), dice)

    def test_designs(self):
        dice = random.Random(7)
        for text in TEXTS:
            flat = flat_of(read_design(text))
            self.agrees(flat, random_lots(dice, in_widths(flat), 20), dice)

    def test_great_ones(self):
        rows = (("in", 0), ("in", 1), ("mul", 0, 1), *[("mul", k, 0) for k in range(2, 60)])
        flat = ((("a", 16), ("b", 16)), (("o", len(rows) - 1),), (), rows)
        self.assertEqual(runs(graph_of(flat), [lot_bits([16, 16], (3, 5))]), [tuple(bits(16, 5 * 3**59))])


if __name__ == "__main__":
    unittest.main()
