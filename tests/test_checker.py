"""Faults and rings of designs ([S2.2] to [S2.7])."""

import random
import unittest

from models import C, Fault, Model, model_fault
from samples import TEXTS, changed_design
from support import LOOSE, LoomTest, deep

from bitloom.checker import check_design, fault_of, judge_ring
from bitloom.errors import BadDesign, BadRing
from bitloom.texts import read_design
from bitloom.unrolling import flat_of

I = (0, 0, 2)


def module(items, rest="", top="m"):
    """A design whose first module is m, with items."""
    return read_design(f"design {{ module m {{ {items} }} {rest} top {top}; }}")


GOOD = "in a bits 4; in b bits 4; in c bits 1; out z bits 4; z = a;"

# Each fault by itself: items behind those of GOOD, the first of which stands at (0, 0, 2, 5).
P = (0, 0, 2, 5)
FAULTS = [
    # Items as they are unrolled.
    ("for i = 0 to 1 { in x bits 1; }", "round", (*P, 4, 0)),
    ("for i = 0 to 1 { when 1 { out x bits 1; } }", "round", (*P, 4, 0, 2, 0)),
    ("in x bits n;", "number", (*P, 2)), ("out x bits 1 / 0;", "number", (*P, 2)),
    ("wire x bits 1000000001;", "number", (*P, 2)), ("reg x bits n = 0 <- x;", "number", (*P, 2)),
    ("reg x bits 4 = n + 1 <- x;", "number", (*P, 3)), ("mem x[1] bits n [a] <- a when c;", "number", (*P, 2)),
    ("mem x[n] bits 1 [a] <- a when c;", "number", (*P, 3)), ("for i = n to 1 { }", "number", (*P, 2)),
    ("for i = 0 to n { }", "number", (*P, 3)), ("for i = 0 - 1 to 1 { }", "number", (*P, 2)),
    ("for i = 0 to 0 - 1 { }", "number", (*P, 3)), ("for i = 0 to i { }", "number", (*P, 3)),
    ("when n { }", "number", (*P, 1)), ("when 1 { when n { } }", "number", (*P, 2, 0, 1)),
    ("in x bits 0;", "width", (*P, 2)), ("out x bits 65;", "width", (*P, 2)), ("wire x bits 1 - 2;", "width", (*P, 2)),
    ("reg x bits 0 = 0 <- x;", "width", (*P, 2)), ("mem x[1] bits 65 [a] <- a when c;", "width", (*P, 2)),
    ("mem x[0] bits 4 [a] <- a when c;", "many", (*P, 3)), ("mem x[257] bits 4 [a] <- a when c;", "many", (*P, 3)),
    ("wire a bits 4;", "double", P), ("reg z bits 4 = 0 <- a;", "double", P), ("c : m ();", "double", P),
    ("mem b[1] bits 4 [a] <- a when c;", "double", P), ("for i = 0 to 1 { wire a bits 4; }", "double", (*P, 4, 0)),
    # Instances.
    ("u : none ();", "module", (*P, 2)), ("u : s size 1 / 0, 4 ();", "number", (*P, 3, 0)),
    ("u : s size 4, n ();", "number", (*P, 3, 1)), ("u : s size 4 ();", "sizes", (*P, 3)),
    ("u : s size 4, 4, 4 ();", "sizes", (*P, 3)), ("u : s ();", "sizes", (*P, 3)), ("u : m ();", "great", None),
    # Expressions.
    ("z = bits(n, 1);", "number", (*P, 2, 1)), ("z = bits(4, n);", "number", (*P, 2, 2)),
    ("z = a{n:1};", "number", (*P, 2, 2)), ("z = a{0:n};", "number", (*P, 2, 3)),
    ("z = a[1, n + 1];", "number", (*P, 2, 2, 1)), ("z = u[n].q;", "number", (*P, 2, 1, 2, 0)),
    ("z = u[n]@a;", "number", (*P, 2, 1, 2, 0)), ("z[n] = a;", "number", (*P, 1, 2, 0)),
    ("z = bits(0, 1);", "width", (*P, 2, 1)), ("z = bits(65, 1);", "width", (*P, 2, 1)),
    ("z = x;", "unknown", (*P, 2)), ("z = a[0];", "unknown", (*P, 2)), ("z = x.q;", "unknown", (*P, 2, 1)),
    ("z = x@a;", "unknown", (*P, 2, 1)), ("x = a;", "unknown", (*P, 1)), ("z = a + ~x;", "unknown", (*P, 2, 2, 1)),
    ("mem x[2] bits 4 [x] <- a when c;", "sort", (*P, 4)), ("z = a.q;", "sort", (*P, 2, 1)),
    ("z = a@b;", "sort", (*P, 2, 1)), ("a = b;", "sort", (*P, 1)), ("reg r bits 4 = 0 <- a; r = a;", "sort", None),
    ("z = a{0:0};", "cut", (*P, 2)), ("z = a{0 - 1:1};", "cut", (*P, 2)), ("z = a{1:4};", "cut", (*P, 2)),
    ("z = a{4:1};", "cut", (*P, 2)), ("z = a{1000000000:1000000000};", "cut", (*P, 2)),
    ("z = a ^ c;", "unlike", (*P, 2)), ("z = c ? a : c;", "unlike", (*P, 2)), ("z = a ? a : b;", "unlike", (*P, 2)),
    ("z = a # bits(61, 0);", "width", (*P, 2)), ("z = c;", "unlike", (*P, 2)),
    ("reg r bits 4 = 0 <- c;", "unlike", (*P, 4)), ("mem x[2] bits 4 [c] <- c when c;", "unlike", (*P, 5)),
    ("mem x[2] bits 4 [c] <- a when a;", "unlike", (*P, 6)),
    # Ports.
    ("u : p (y = a, k = c);", "port", (*P, 4, 0)), ("u : p (d = a, k = c, q = a);", "port", (*P, 4, 2)),
    ("u : p (d = a, k = c, d = a);", "port", (*P, 4, 2)), ("u : p (d = c, k = c);", "unlike", (*P, 4, 0, 1)),
    ("u : p (d = a, k = x);", "unknown", (*P, 4, 1, 1)), ("u : p (d = a);", "ports", (*P, 4)),
    ("u : p ();", "ports", (*P, 4)), ("u : p (d = a, k = c); z = u.d;", "port", (0, 0, 2, 6, 2)),
    ("u : p (d = a, k = c); z = u.none;", "port", (0, 0, 2, 6, 2)),
    ("u : p (d = a, k = c); z = u;", "sort", (0, 0, 2, 6, 2)), ("u : p (d = a, k = c); u = a;", "sort", (0, 0, 2, 6, 1)),
    ("u : p (d = a, k = c); z = u@a;", "sort", (0, 0, 2, 6, 2, 1)),
    ("mem x[2] bits 4 [c] <- a when c; z = x;", "sort", (0, 0, 2, 6, 2)),
    ("mem x[2] bits 4 [c] <- a when c; z = x.q;", "sort", (0, 0, 2, 6, 2, 1)),
    ("mem x[2] bits 4 [c] <- a when c; x = a;", "sort", (0, 0, 2, 6, 1)),
    # What drives.
    ("out x bits 1;", "driven", P), ("wire x bits 1;", "driven", P), ("z = b;", "driven", (0, 0, 2, 3)),
    ("for i = 0 to 2 { wire t bits 4; when i { t[i] = a; } }", "driven", (*P, 4, 0)),
]
REST = (
    "module s size w, v { out q bits w; q = bits(w, v); } "
    "module p { in d bits 4; in k bits 1; out q bits 4; q = d; }"
)


class FaultTest(LoomTest):
    def test_without_fault(self):
        for design in [C, module(GOOD, REST), *[read_design(text) for text in TEXTS]]:
            self.assertIsNone(fault_of(design))
            self.assertIsNone(check_design(design))

    def test_each_by_itself(self):
        for items, word, path in FAULTS:
            with self.subTest(items=items):
                told = fault_of(module(f"{GOOD} {items}", REST))
                self.assertEqual(told[0], word)
                if path is not None:
                    self.assertEqual(told, (word, "", path))
                self.assertEqual(told, model_fault(module(f"{GOOD} {items}", REST)))
                attributes = dict(zip(("word", "where", "path"), told))
                self.fails(BadDesign, attributes, check_design, module(f"{GOOD} {items}", REST))
                self.fails(BadDesign, attributes, flat_of, module(f"{GOOD} {items}", REST))

    def test_the_greatest_and_least_that_are_let_by(self):
        for items in [
            "wire x bits 64; x = bits(32, 0) # bits(32, 1);", "wire x bits 1; x = bits(1, 0 - 1000000000);",
            "mem x[256] bits 64 [c] <- bits(64, 1) when c;", "mem x[1] bits 1 [a] <- c when c;",
            "wire x bits 4; x = a{0:4};", "wire x bits 1; x = a{3:1};", "reg r bits 64 = 1000000000 <- r;",
            "for i = 0 to 0 { wire x bits 0; }", "wire abcdefghijklmnop bits 4; abcdefghijklmnop = a;",
        ]:
            self.assertIsNone(fault_of(module(f"{GOOD} {items}", REST)), items)

    def test_two_at_once(self):
        dice = random.Random(1)
        for items, _, _ in FAULTS:
            for other in [dice.choice(FAULTS)[0] for _ in range(4)]:
                for both in (f"{items} {other}", f"{other} {items}"):
                    design = module(f"{GOOD} {both}", REST)
                    self.assertEqual(fault_of(design), model_fault(design))

    def test_two_in_one_item(self):
        for item, told in [
            ("reg x bits 0 = n <- x;", ("number", "", (*P, 3))), ("reg a bits 0 = 0 <- x;", ("width", "", (*P, 2))),
            ("mem a[0] bits 0 [x] <- x when x;", ("width", "", (*P, 2))),
            ("mem a[0] bits 1 [x] <- x when x;", ("many", "", (*P, 3))),
            ("mem x[n] bits 0 [a] <- a when c;", ("number", "", (*P, 3))),
            ("mem x[2] bits 4 [a] <- c when x;", ("sort", "", (*P, 6))),
            ("mem x[2] bits 4 [a] <- c when a;", ("unlike", "", (*P, 5))),
            ("for i = 0 - 1 to n { }", ("number", "", (*P, 2))),
            ("for i = 0 to 1 { in x bits n; }", ("round", "", (*P, 4, 0))),
            ("z = x[n].q;", ("number", "", (*P, 2, 1, 2, 0))), ("x = y;", ("unknown", "", (*P, 1))),
            ("a = y;", ("sort", "", (*P, 1))), ("z = x + (a ^ c);", ("unknown", "", (*P, 2, 1))),
            ("z = (a ^ c) + x;", ("unlike", "", (*P, 2, 1))), ("z = x{n:1};", ("unknown", "", (*P, 2, 1))),
            ("z = a{5:n};", ("number", "", (*P, 2, 3))), ("z = bits(0, n);", ("number", "", (*P, 2, 2))),
            ("z = x@y;", ("unknown", "", (*P, 2, 1))), ("z = a@y;", ("sort", "", (*P, 2, 1))),
            ("u : p (d = x, d = x);", ("unknown", "", (*P, 4, 0, 1))),
            ("u : p (q = x);", ("port", "", (*P, 4, 0))), ("u : p (d = c);", ("unlike", "", (*P, 4, 0, 1))),
            ("u : none size n (d = c);", ("module", "", (*P, 2))), ("u : s size n ();", ("number", "", (*P, 3, 0))),
            ("a : none ();", ("double", "", P)),
        ]:
            with self.subTest(item=item):
                self.assertEqual(fault_of(module(f"{GOOD} {item}", REST)), told)

    def test_the_phases_one_after_another(self):
        later = ["wire y bits 1;", "z = x;", "u : none ();", "wire q bits 0;"]
        told = ["driven", "unknown", "module", "width"]
        for k in range(4):
            design = module(GOOD + " ".join(later[: k + 1]), REST)
            self.assertEqual(fault_of(design)[0], told[k])
        self.assertEqual(fault_of(module("wire q bits 0;", "module m { }")), ("double", "", (0, 1, 0)))

    def test_names_of_modules_and_sizes(self):
        for text, path in [
            ("design { module a { } module a { } top a; }", (0, 1, 0)),
            ("design { module a size w, v, w { } top a; }", (0, 0, 1, 2)),
            ("design { module a size w, w { } module a { } top a; }", (0, 0, 1, 1)),
            ("design { module a { } module a size w, w { } top b; }", (0, 1, 0)),
            ("design { module a { } module b size a, b, b { } top a; }", (0, 1, 1, 2)),
        ]:
            self.assertEqual(fault_of(read_design(text)), ("double", "", path))
        self.assertIsNone(fault_of(read_design("design { module a size a { } module b size a { } top a size 1; }")))

    def test_the_top(self):
        self.assertEqual(fault_of(module("", "", "none size n")), ("module", "", (1, 0)))
        self.assertEqual(fault_of(module("", "", "m size 1, n")), ("number", "", (1, 1, 1)))
        self.assertEqual(fault_of(module("", "", "m size 1")), ("sizes", "", (1, 1)))
        self.assertEqual(fault_of(module("wire x bits n;", "", "m")), ("number", "", (*I, 0, 2)))

    def test_where(self):
        rest = "module t size k { v : w size k (); } module w size k { wire x bits k; x = bits(k, 1); x = x; }"
        design = module("for i = 3 to 5 { u : t size i (); }", rest)
        self.assertEqual(fault_of(design), ("driven", "u.3.v", (0, 2, 2, 0)))
        design = module("for i = 0 to 5 { u : t size i (); }", rest)
        self.assertEqual(fault_of(design), ("width", "u.0.v", (0, 2, 2, 0, 2)))
        design = module("u : t size 3 ();", "module t size k { v : w size k / 0 (); }")
        self.assertEqual(fault_of(design), ("module", "u", (0, 1, 2, 0, 2)))
        design = module("u : t size 3 (a = bits(1, 0));", "module t size k { v : w (); } module w { }")
        self.assertEqual(fault_of(design), ("port", "", (*I, 0, 4, 0)))

    def test_instances_one_after_another(self):
        rest = "module t { wire x bits 0; } module s { v : t (); }"
        self.assertEqual(fault_of(module("u : s (); v : none ();", rest))[:2], ("width", "u.v"))
        self.assertEqual(fault_of(module("v : none (); u : s ();", rest))[:2], ("module", ""))
        self.assertEqual(fault_of(module("u : s (); wire y bits 0;", rest))[:2], ("width", ""))
        rest = "module t { wire x bits 1; x = y; } module s { v : t (); wire x bits 1; x = y; }"
        self.assertEqual(fault_of(module("u : s (); wire y bits 1;", rest)), ("unknown", "u", (0, 2, 2, 2, 2)))

    def test_what_is_not_unrolled(self):
        self.assertIsNone(fault_of(module("when 0 { in x bits 0; x = y; u : none (); }", "module t { x = y; }")))
        self.assertIsNone(fault_of(module("for i = 5 to 5 { in x bits n; } for i = 7 to 2 { u : none (); }")))
        self.assertEqual(fault_of(module("when 0 { } else { wire x bits 0; }"))[0], "width")
        self.assertEqual(fault_of(module("when 0 - 1 { wire x bits 0; }"))[0], "width")

    def test_rounds(self):
        self.assertIsNone(fault_of(module("for i = 0 to 2 { wire x bits 1; x[i] = bits(1, i); }")))
        both = "for i = 0 to 1 { wire x bits 1; x[i] = bits(1, 0); } for i = 1 to 2 { reg x bits 1 = 0 <- x[0]; }"
        self.assertIsNone(fault_of(module(both)))
        self.assertEqual(fault_of(module(both.replace("i = 1 to 2", "i = 0 to 2"))), ("double", "", (*I, 1, 4, 0)))
        nested = "for i = 0 to 2 { for j = i to 2 { wire x bits 1; x[i, j] = bits(1, 0); } }"
        self.assertIsNone(fault_of(module(nested)))
        self.assertEqual(fault_of(module(nested.replace("x[i, j]", "x[j, i]")))[0], "unknown")
        hidden = "for i = 2 to 3 { for i = 0 to 1 { wire x bits 1; x[2, i] = bits(1, i); } }"
        self.assertIsNone(fault_of(module(hidden)))
        shadow = "design { module m size w { for w = 1 to 3 { wire x bits w; x[w] = bits(w, 0); } } top m size 99; }"
        self.assertIsNone(fault_of(read_design(shadow)))

    def test_instances_in_rounds(self):
        items = "for i = 1 to 3 { u : p size i (d = bits(i, 1)); } out z bits 3; z = u[1].q # u[2].q;"
        rest = "module p size w { in d bits w; out q bits w; q = d; }"
        self.assertIsNone(fault_of(module(items, rest)))
        self.assertEqual(fault_of(module(items.replace("u[2]", "u"), rest)), ("unknown", "", (*I, 2, 2, 2, 1)))
        self.assertEqual(fault_of(module(items.replace("bits(i, 1)", "bits(1, 1)"), rest))[0], "unlike")

    def test_21_instances_within_one_another(self):
        text = "".join(f"module m{k} {{ u : m{k + 1} (); }} " for k in range(20)) + "module m20 { }"
        self.assertIsNone(fault_of(read_design(f"design {{ {text} top m0; }}")))
        more = text.replace("m20 { }", "m20 { v : m21 size 1 / 1 (); } module m21 size w { wire x bits 0; }")
        where = ".".join(["u"] * 20)
        self.assertEqual(fault_of(read_design(f"design {{ {more} top m0; }}")), ("great", where, (0, 20, 2, 0)))
        own = module("in x bits 1; u : m (x = x);")
        self.assertEqual(fault_of(own), ("great", where, (*I, 1)))

    def test_10000_items(self):
        # The each itself, and two for each round.
        for many, told in [(4999, None), (5000, ("great", "", (*I, 0, 4, 0)))]:
            self.assertEqual(fault_of(module(f"for i = 0 to {many} {{ when 0 {{ }} }}")), told)
        self.assertIsNone(fault_of(module("for i = 0 to 9999 { }")))
        self.assertEqual(fault_of(module("for i = 0 to 10000 { }")), ("great", "", (*I, 0)))
        self.assertEqual(fault_of(module("for i = 0 to 1000000000 { }")), ("great", "", (*I, 0)))
        self.assertEqual(fault_of(module("for i = 0 to 9999 { } wire x bits 0;")), ("great", "", (*I, 1)))
        self.assertEqual(fault_of(module("for i = 0 to 9998 { } wire x bits 0;")), ("width", "", (*I, 1, 2)))
        self.assertEqual(fault_of(module("u : s (); v : s ();", "module s { for i = 0 to 5000 { } }")),
                         ("great", "v", (0, 1, 2, 0)))
        self.assertIsNone(fault_of(module("u : s (); v : s ();", "module s { for i = 0 to 4998 { } }")))

    def test_items_nested_deep(self):
        design = module("when 1 { " * 150 + "wire x bits 0;" + " }" * 150)
        self.assertEqual(fault_of(design), ("width", "", I + (0, 2) * 150 + (0, 2)))

    def test_by_a_model(self):
        dice = random.Random(41)
        designs = [read_design(text) for text in TEXTS]
        for _ in range(500):
            design = dice.choice(designs)
            for _ in range(dice.choice([1, 1, 2, 3])):
                design = changed_design(dice, design)
            told = fault_of(design)
            self.assertEqual(told, model_fault(design))
            if told is not None:
                self.fails(BadDesign, dict(zip(("word", "where", "path"), told)), check_design, design)


class RingTest(LoomTest):
    RINGS = [
        ("wire x bits 1; x = x;", "", ("x",)), ("out x bits 1; wire y bits 1; x = ~y; y = x;", "", ("x", "y")),
        ("for i = 0 to 3 { wire x bits 1; when i { x[i] = x[i - 1]; } else { x[i] = x[2]; } }", "", ("x.0", "x.2", "x.1")),
        ("wire x bits 1; x = bits(1, 0) ? x : bits(1, 1);", "", ("x",)),
        ("wire x bits 4; x = x{0:3} # bits(1, 0);", "", ("x",)),
        ("wire x bits 4; x = k@x; mem k[4] bits 4 [x] <- x when &x;", "", ("x",)),
        ("u : p (d = u.q);", "module p { in d bits 1; out q bits 1; q = ~d; }", ("u.d", "u.q")),
        ("wire x bits 1; u : p (d = x); x = u.q;", "module p { in d bits 1; out q bits 1; q = ~d; }", ("x", "u.q", "u.d")),
        ("for i = 0 to 2 { u : p (d = u[1 - i].q); }", "module p { in d bits 1; out q bits 1; q = ~d; }",
         ("u.0.d", "u.1.q", "u.1.d", "u.0.q")),
        ("u : o ();", "module o { v : p (d = v.q); } module p { in d bits 1; out q bits 1; q = d; }", ("u.v.d", "u.v.q")),
    ]

    def test_rings(self):
        for items, rest, ring in self.RINGS:
            with self.subTest(items=items):
                design = module(items, rest)
                self.assertIsNone(fault_of(design))
                for call in (check_design, flat_of):
                    with self.assertRaises(BadRing) as first:
                        call(design)
                    with self.assertRaises(BadRing) as second:
                        call(design)
                    self.assertEqual(first.exception.names, second.exception.names)
                    self.assertIs(judge_ring(design, first.exception.names), True)
                for k in range(len(ring)):
                    self.assertIs(judge_ring(design, ring[k:] + ring[:k]), True)
                    self.assertIs(judge_ring(design, ring[:k]), False)
                if len(ring) > 2:
                    self.assertIs(judge_ring(design, ring[::-1]), False)
                self.assertIs(judge_ring(design, ring + ring), False)
                self.assertIs(judge_ring(design, list(ring)), False)

    def test_what_hangs_on_nothing(self):
        for items, rest in [
            ("reg r bits 1 = 0 <- ~r; wire x bits 1; x = r;", ""),
            ("mem k[2] bits 1 [x] <- x when x; wire x bits 1; x = k@(bits(1, 0));", ""),
            ("reg r bits 1 = 0 <- x; wire x bits 1; u : p (d = r); x = u.q;",
             "module p { in d bits 1; out q bits 1; q = d; }"),
            ("u : p (d = u.k, e = u.q);",
             "module p { in d bits 1; in e bits 1; out q bits 1; out k bits 1; q = d; k = bits(1, 0); }"),
            ("for i = 0 to 3 { wire x bits 1; when i { x[i] = x[i - 1]; } else { x[i] = bits(1, 1); } }", ""),
        ]:
            design = module(items, rest)
            self.assertIsNone(check_design(design))
            self.assertIs(judge_ring(design, ("x",)), False)
            self.assertIs(judge_ring(design, ("u.d", "u.q")), False)

    def test_what_is_no_ring(self):
        design = module("in a bits 1; wire x bits 1; wire y bits 1; wire z bits 1; x = y ^ z; y = x & a; z = x;")
        for value in [*LOOSE, deep("x", 40), ("x", "y", "x", "z"), ("x", ["y"]), ("x", "none"), ("y", "z"), ("x", "a")]:
            self.assertIs(judge_ring(design, value), False)
        for value in [("x", "y"), ("y", "x"), ("x", "z")]:
            self.assertIs(judge_ring(design, value), True)

    def test_a_fault_is_told_ahead_of_a_ring(self):
        design = module("wire x bits 1; x = x; wire y bits 1;")
        self.assertEqual(fault_of(design), ("driven", "", (*I, 2)))
        self.fails(BadDesign, {"word": "driven", "where": "", "path": (*I, 2)}, check_design, design)

    def test_long_rings_and_long_ways(self):
        items = "for i = 0 to 1500 { wire x bits 1; x[i] = x[(i + 1) - (i + 1) / 1500 * 1500]; }"
        with self.assertRaises(BadRing) as caught:
            check_design(module(items))
        self.assertEqual(len(caught.exception.names), 1500)
        self.assertIs(judge_ring(module(items), caught.exception.names), True)
        way = "for i = 0 to 1500 { wire x bits 1; when i { x[i] = ~x[i - 1]; } else { x[i] = bits(1, 0); } }"
        self.assertEqual(len(flat_of(module(way + " out z bits 1; z = x[1499];"))[3]), 1500)

    def test_by_a_model(self):
        dice = random.Random(77)
        designs = [module(items, rest) for items, rest, _ in self.RINGS] + [read_design(text) for text in TEXTS]
        rings = 0
        for _ in range(400):
            design = changed_design(dice, dice.choice(designs))
            try:
                has_ring = Model(design).has_ring()
            except Fault:
                continue
            rings += has_ring
            if has_ring:
                with self.assertRaises(BadRing) as caught:
                    check_design(design)
                self.assertIs(judge_ring(design, caught.exception.names), True)
            else:
                self.assertIsNone(check_design(design))
        self.assertGreater(rings, 20)


if __name__ == "__main__":
    unittest.main()
