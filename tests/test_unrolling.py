"""Instances, things, and flat designs of designs ([S2.2], [S2.3], [S2.9], [S2.10])."""

import random
import unittest

from models import C, C_FLAT, Fault, Model
from samples import TEXTS, changed_design, random_lots
from support import LoomTest

from bitloom.clocks import outputs
from bitloom.errors import BadDesign, BadRing
from bitloom.flats import check_flat
from bitloom.texts import read_design
from bitloom.unrolling import flat_of, instances_of, things_of

NESTED = """design {
  module v size k { wire x bits k; in d bits 1; x = bits(k, 0); for i = 3 to 5 { reg x_ bits k = i <- x; } }
  module u size a, b { v : v size a + b (d = bits(1, 0)); mem m[2] bits b [bits(1, 0)] <- bits(b, 0) when bits(1, 1); }
  module t { out z bits 1; z = bits(1, 0);
    for i = 1 to 3 { for j = 0 to i { u : u size i, j + 1 (); } } w : v size 9 (d = z); reg r bits 2 = 0 - 1 <- r; }
  top t;
}"""


def flat(items, rest=""):
    return flat_of(read_design(f"design {{ module m {{ {items} }} {rest} top m; }}"))


class NamesTest(LoomTest):
    def test_c(self):
        self.assertEqual(self.is_new(instances_of, C), [("", "count", (8,))])
        self.assertEqual(self.is_new(things_of, C), [("in", "on", 1), ("out", "now", 8), ("reg", "r", 8)])

    def test_instances(self):
        told = [
            ("", "t", ()), ("u.1.0", "u", (1, 1)), ("u.1.0.v", "v", (2,)), ("u.2.0", "u", (2, 1)),
            ("u.2.0.v", "v", (3,)), ("u.2.1", "u", (2, 2)), ("u.2.1.v", "v", (4,)), ("w", "v", (9,)),
        ]
        self.assertEqual(instances_of(read_design(NESTED)), told)

    def test_things(self):
        found = things_of(read_design(NESTED))
        inner = [("wire", "x", 2), ("in", "d", 1), ("reg", "x_.3", 2), ("reg", "x_.4", 2)]
        self.assertEqual(found[:2], [("out", "z", 1), ("reg", "r", 2)])
        self.assertEqual(found[2:7], [("mem", "u.1.0.m", 1)] + [(s, "u.1.0.v." + x, w) for s, x, w in inner])
        self.assertEqual(found[-4:], [(s, "w." + x, 9 if w == 2 else 1) for s, x, w in inner])
        self.assertEqual(len(found), 2 + 3 * 5 + 4)

    def test_things_are_told_in_the_order_of_their_items(self):
        design = read_design(
            "design { module m { for i = 0 to 2 { wire b bits 1; when i == 0 { reg a bits 1 = 0 <- b[0]; } "
            "b[i] = bits(1, 0); } in c bits 1; } top m; }"
        )
        told = [("wire", "b.0", 1), ("reg", "a.0", 1), ("wire", "b.1", 1), ("in", "c", 1)]
        self.assertEqual(things_of(design), told)

    def test_a_ring_is_no_fault(self):
        design = read_design("design { module m { wire x bits 1; x = x; } top m; }")
        self.assertEqual((instances_of(design), things_of(design)), ([("", "m", ())], [("wire", "x", 1)]))


class FlatTest(LoomTest):
    def test_c(self):
        self.assertEqual(self.is_new(flat_of, C), C_FLAT)

    def test_words_take_low_bits(self):
        told = flat("out z bits 4; z = bits(4, 0 - 1) + bits(4, 18); reg r bits 3 = 0 - 3 <- r;")
        rows = (("reg", 0), ("word", 4, 15), ("word", 4, 2), ("add", 1, 2))
        self.assertEqual(told, ((), (("z", 3),), (("r", 3, 5, 0),), rows))

    def test_equal_rows_are_one(self):
        told = flat("in a bits 2; out z bits 2; out y bits 2; z = (a + a) ^ (a + a); y = a + a;")
        rows = (("in", 0), ("add", 0, 0), ("xor", 1, 1))
        self.assertEqual(told, ((("a", 2),), (("z", 2), ("y", 1)), (), rows))

    def test_only_what_is_needed(self):
        told = flat("in a bits 2; in b bits 3; wire x bits 2; x = ~a; reg r bits 3 = 1 <- b; out z bits 2; z = a;")
        self.assertEqual(
            told, ((("a", 2), ("b", 3)), (("z", 0),), (("r", 3, 1, 1),), (("in", 0), ("in", 1), ("reg", 0)))
        )

    def test_members_are_made_in_order(self):
        told = flat("in a bits 2; in c bits 1; out z bits 1; z = (~a){1:1} # c == c # |(c ? a : bits(2, 1));")
        rows = (
            ("in", 0), ("in", 1), ("not", 0), ("cut", 2, 1, 1), ("join", 3, 1), ("word", 2, 1), ("mux", 1, 0, 5),
            ("any", 6), ("join", 1, 7), ("eq", 4, 8),
        )
        self.assertEqual(told[3], rows)

    def test_wires_are_made_when_they_are_come_to(self):
        told = flat(
            "in a bits 2; wire x bits 2; wire y bits 2; x = ~y; y = a + a; out z bits 2; z = bits(2, 3) & x; "
            "out k bits 2; k = y;"
        )
        self.assertEqual(told[3], (("in", 0), ("word", 2, 3), ("add", 0, 0), ("not", 2), ("and", 1, 3)))
        self.assertEqual(told[1], (("z", 4), ("k", 2)))

    def test_ports(self):
        rest = "module p { in d bits 2; out q bits 2; q = d + d; reg r bits 2 = 2 <- q; out s bits 2; s = r; }"
        told = flat("in a bits 2; out z bits 2; u : p (d = ~a); z = u.s ^ u.q; reg t bits 1 = 1 <- t;", rest)
        rows = (("in", 0), ("reg", 0), ("reg", 1), ("not", 0), ("add", 3, 3), ("xor", 2, 4))
        self.assertEqual(told, ((("a", 2),), (("z", 5),), (("t", 1, 1, 1), ("u.r", 2, 2, 4)), rows))

    def test_a_memory(self):
        told = flat("in a bits 1; in d bits 3; out z bits 3; mem m[3] bits 3 [a] <- d when ~a; z = m@(a # a);")
        rows = (
            ("in", 0), ("in", 1), ("reg", 0), ("reg", 1), ("reg", 2), ("join", 0, 0), ("word", 3, 0), ("word", 2, 0),
            ("eq", 5, 7), ("mux", 8, 2, 6), ("word", 2, 1), ("eq", 5, 10), ("mux", 11, 3, 9), ("word", 2, 2),
            ("eq", 5, 13), ("mux", 14, 4, 12), ("not", 0), ("word", 1, 0), ("eq", 0, 17), ("and", 16, 18),
            ("mux", 19, 1, 2), ("word", 1, 1), ("eq", 0, 21), ("and", 16, 22), ("mux", 23, 1, 3),
        )
        regs = (("m.0", 3, 0, 20), ("m.1", 3, 0, 24), ("m.2", 3, 0, 4))
        self.assertEqual(told, ((("a", 1), ("d", 3)), (("z", 15),), regs, rows))

    def test_a_memory_that_is_read_by_few_bits(self):
        told = flat("in a bits 1; out z bits 1; mem m[256] bits 1 [a] <- a when a; z = m@a;")
        self.assertEqual(len(told[2]), 256)
        self.assertEqual([reg[3] for reg in told[2][2:]], list(range(3, 257)))
        self.assertEqual(outputs(told, [(1,), (1,), (0,), (1,)]), [(0,), (1,), (0,), (1,)])

    def test_registers_are_told_instance_by_instance(self):
        told = flat_of(read_design(NESTED))
        names = [reg[0] for reg in told[2]]
        self.assertEqual(names[:5], ["r", "u.1.0.m.0", "u.1.0.m.1", "u.1.0.v.x_.3", "u.1.0.v.x_.4"])
        self.assertEqual(names[-2:], ["w.x_.3", "w.x_.4"])
        self.assertEqual(told[2][0][2], 3)

    def test_what_is_not_let_by(self):
        bad = read_design("design { module m { wire x bits 0; } top m; }")
        self.fails(BadDesign, {"word": "width", "where": "", "path": (0, 0, 2, 0, 2)}, flat_of, bad)
        ring = read_design("design { module m { wire x bits 1; x = x; } top m; }")
        self.fails(BadRing, {"names": ("x",)}, flat_of, ring)

    def test_by_a_model(self):
        dice = random.Random(31)
        designs = [read_design(text) for text in [*TEXTS, NESTED]]
        tried = 0
        while tried < 120:
            design = dice.choice(designs)
            for _ in range(dice.choice([0, 1, 2])):
                design = changed_design(dice, design)
            try:
                model = Model(design)
            except Fault:
                continue
            if model.has_ring() or len(model.instances) > 40 or model.count > 300:
                continue
            tried += 1
            told = flat_of(design)
            self.assertIsNone(check_flat(told))
            self.assertEqual(told, model.flat_design())
            lots = random_lots(dice, [width for _, width in told[0]], 6)
            self.assertEqual(outputs(told, lots), model.run(lots))

    def test_hanging_through_many_others(self):
        parts = "~" * 30
        items = (
            "in a bits 1; for i = 0 to 300 { wire x bits 1; "
            f"when i {{ x[i] = {parts}x[i - 1] ^ a; }} else {{ x[i] = a; }} }} out z bits 1; z = x[299];"
        )
        told = flat(items)
        self.assertEqual(outputs(told, [(1,), (0,)]), [(0,), (0,)])
        self.assertIsNone(check_flat(told))


if __name__ == "__main__":
    unittest.main()
