"""Flat designs ([S2.8])."""

import random
import unittest

from models import C_FLAT, F
from samples import TEXTS, random_flat, replaced
from support import LOOSE, LoomTest, deep

from bitloom.errors import BadFlat
from bitloom.flats import check_flat, needed_rows, widths_of
from bitloom.texts import read_design
from bitloom.unrolling import flat_of

# Rows of each word: at 0 to 4 rows of the widths 4, 2, 1, 4, 64.
G = (
    (("a", 4), ("b", 2)),
    (("x", 5), ("y", 0)),
    (("r", 1, 1, 2), ("s", 4, 15, 3)),
    (("in", 0), ("in", 1), ("reg", 0), ("reg", 1), ("word", 64, 2**64 - 1), ("not", 0)),
)


def with_row(row):
    """G with a row behind all others; it stands at (3, 6)."""
    return G[:3] + (G[3] + (row,),)


WIDTHS = [
    (("in", 1), 2), (("reg", 1), 4), (("word", 3, 7), 3), (("not", 4), 64), (("all", 0), 1), (("any", 0), 1),
    (("odd", 0), 1), (("and", 0, 3), 4), (("or", 0, 3), 4), (("xor", 0, 3), 4), (("add", 0, 3), 4), (("sub", 0, 3), 4),
    (("mul", 0, 3), 4), (("eq", 0, 3), 1), (("lt", 0, 3), 1), (("join", 1, 0), 6), (("join", 5, 5), 8),
    (("shl", 0, 4), 4), (("shr", 4, 0), 64), (("pick", 4, 1), 1), (("cut", 4, 0, 64), 64), (("cut", 0, 3, 1), 1),
    (("mux", 2, 0, 3), 4),
]


class CheckTest(LoomTest):
    def test_flat_designs(self):
        for flat in (C_FLAT, F, G, ((), (), (), ()), *[flat_of(read_design(text)) for text in TEXTS]):
            self.assertIsNone(check_flat(flat))
        dice = random.Random(4)
        for _ in range(100):
            self.assertIsNone(check_flat(random_flat(dice, 30)))

    def test_each_row(self):
        for row, width in WIDTHS:
            self.assertIsNone(check_flat(with_row(row)))
            self.assertEqual(widths_of(with_row(row))[6], width)
            self.fails(BadFlat, {"path": (3, 6)}, check_flat, with_row((*row, 0)))
            self.fails(BadFlat, {"path": (3, 6)}, check_flat, with_row(row[:-1]))
            self.fails(BadFlat, {"path": (3, 6)}, check_flat, with_row(list(row)))

    def test_the_whole(self):
        for value in [*LOOSE, deep(F, 40), F[:3], (*F, ()), list(F)]:
            self.fails(BadFlat, {"path": ()}, check_flat, value)
        for k in range(4):
            self.fails(BadFlat, {"path": (k,)}, check_flat, replaced(replaced(F, (k,), []), (0,), F[0] if k else []))
        self.fails(BadFlat, {"path": (3,)}, check_flat, ((1,), (2,), (3,), None))

    def test_ins(self):
        for part in [("a",), ("a", 4, 1), ["a", 4], "a"]:
            self.fails(BadFlat, {"path": (0, 0)}, check_flat, replaced(G, (0, 0), part))
        for name in ["", 1, None, ("a",), ["a"], "a"]:
            self.fails(BadFlat, {"path": (0, 1, 0)}, check_flat, replaced(G, (0, 1, 0), name))
        for width in [0, 65, True, "4", None, -1]:
            self.fails(BadFlat, {"path": (0, 0, 1)}, check_flat, replaced(G, (0, 0, 1), width))
        self.assertIsNone(check_flat(replaced(G, (0, 1, 0), "A strange.name\t")))
        self.assertIsNone(check_flat(replaced(G, (0, 1, 0), "r")))

    def test_regs(self):
        for part in [("r", 1, 1), ("r", 1, 1, 2, 0), ["r", 1, 1, 2]]:
            self.fails(BadFlat, {"path": (2, 0)}, check_flat, replaced(G, (2, 0), part))
        for name in ["", "r", None]:
            self.fails(BadFlat, {"path": (2, 1, 0)}, check_flat, replaced(G, (2, 1, 0), name))
        self.fails(BadFlat, {"path": (2, 1, 1)}, check_flat, replaced(G, (2, 1, 1), 65))
        for start in [-1, 16, True, None]:
            self.fails(BadFlat, {"path": (2, 1, 2)}, check_flat, replaced(G, (2, 1, 2), start))
        for number in [-1, 6, 1, True, None, "3", [3]]:
            self.fails(BadFlat, {"path": (2, 1, 3)}, check_flat, replaced(G, (2, 1, 3), number))

    def test_rows(self):
        for row in [7, {0: "in", 1: 0}, (), ("add",), ("name", 0), (["in"], 0), (1, 2), None, "in", ("on", 0), ("In", 0)]:
            self.fails(BadFlat, {"path": (3, 6)}, check_flat, with_row(row))
        for row, k in [
            (("in", 2), 1), (("in", -1), 1), (("in", True), 1), (("reg", 2), 1), (("word", 0, 0), 1),
            (("word", 65, 0), 1), (("word", 3, 8), 2), (("word", 3, -1), 2), (("word", 1, True), 2), (("not", 6), 1),
            (("not", -1), 1), (("not", "a"), 1), (("add", 0, 6), 2), (("add", 6, 7), 1), (("mux", 2, 0, 6), 3),
            (("cut", 6, 0, 1), 1), (("cut", 0, -1, 1), 2), (("cut", 0, True, 1), 2), (("cut", 0, 0, 0), 3),
            (("cut", 0, 0, 65), 3), (("cut", 0, 0, None), 3), (("pick", 0, 6), 2), (("eq", [0], 0), 1),
        ]:
            self.fails(BadFlat, {"path": (3, 6, k)}, check_flat, with_row(row))

    def test_widths_that_do_not_fit(self):
        rows = [(word, 0, 1) for word in ("and", "or", "xor", "add", "sub", "mul", "eq", "lt")]
        rows += [("join", 4, 2), ("mux", 1, 0, 3), ("mux", 2, 0, 1), ("cut", 0, 1, 4), ("cut", 0, 4, 1)]
        rows += [("cut", 0, 10**39, 1)]
        for row in rows:
            self.fails(BadFlat, {"path": (3, 6)}, check_flat, with_row(row))

    def test_outs(self):
        for part in [("x",), ("x", 0, 0), ["x", 0]]:
            self.fails(BadFlat, {"path": (1, 0)}, check_flat, replaced(G, (1, 0), part))
        self.fails(BadFlat, {"path": (1, 1, 0)}, check_flat, replaced(G, (1, 1, 0), "x"))
        self.fails(BadFlat, {"path": (1, 0, 0)}, check_flat, replaced(G, (1, 0, 0), ""))
        for number in [6, -1, True, None]:
            self.fails(BadFlat, {"path": (1, 0, 1)}, check_flat, replaced(G, (1, 0, 1), number))
        self.assertIsNone(check_flat(replaced(G, (1, 0, 0), "a")))

    def test_the_first_of_two(self):
        order = [
            ((0, 0), None), ((0, 1, 0), ""), ((0, 1, 1), 0), ((2, 0), None), ((2, 1, 0), ""), ((2, 1, 1), 0),
            ((2, 1, 2), -1), ((3, 0, 1), 9), ((3, 3), ()), ((3, 4, 1), 0), ((3, 5, 1), 5), ((1, 0), None),
            ((1, 1, 0), ""), ((1, 1, 1), 9), ((2, 1, 3), 9),
        ]
        for k, (one, wrong) in enumerate(order):
            for other, also in order[k + 1:]:
                if one != other[: len(one)]:
                    both = replaced(replaced(G, one, wrong), other, also)
                    self.fails(BadFlat, {"path": one}, check_flat, both)
        for k in range(4):
            self.fails(BadFlat, {"path": (k,)}, check_flat, replaced(replaced(G, (0, 0), None), (k,), []))


class RowsTest(LoomTest):
    def test_a_join_of_64_bits(self):
        for width in (32, 33):
            flat = ((("a", width), ("b", 32)), (), (), (("in", 0), ("in", 1), ("join", 0, 1)))
            if width == 32:
                self.assertIsNone(check_flat(flat))
                self.assertEqual(widths_of(flat), [32, 32, 64])
            else:
                self.fails(BadFlat, {"path": (3, 2)}, check_flat, flat)

    def test_widths_of(self):
        self.assertEqual(self.is_new(widths_of, F), [1, 3, 2, 3, 3])
        self.assertEqual(widths_of(C_FLAT), [1, 8, 8, 8, 8])
        self.assertEqual(widths_of(((), (), (), ())), [])

    def test_needed_rows(self):
        self.assertEqual(self.is_new(needed_rows, F), [0, 1, 2, 3, 4])
        self.assertEqual(needed_rows(G), [0, 2, 3, 5])
        self.assertEqual(needed_rows(((), (), (), (("word", 1, 1),))), [])
        flat = (
            (("a", 4), ("b", 4), ("c", 1)),
            (("x", 7),),
            (),
            (
                ("in", 0), ("in", 1), ("in", 2), ("add", 0, 1), ("cut", 3, 1, 2), ("word", 2, 0), ("not", 0),
                ("mux", 2, 4, 5),
            ),
        )
        self.assertIsNone(check_flat(flat))
        self.assertEqual(needed_rows(flat), [0, 1, 2, 3, 4, 5, 7])
        self.assertEqual(needed_rows(replaced(flat, (1, 0, 1), 4)), [0, 1, 3, 4])

    def test_long_ones(self):
        rows = [("in", 0)]
        for k in range(1999):
            rows.append(("add", k, k))
        flat = ((("a", 8),), (("x", 1999),), (), tuple(rows))
        self.assertIsNone(check_flat(flat))
        self.assertEqual(needed_rows(flat), list(range(2000)))


if __name__ == "__main__":
    unittest.main()
