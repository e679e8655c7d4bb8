"""Designs with many rounds, whose items are counted without unrolling them one by one ([S2.3], [S2.4], [S2.6])."""

import random
import time
import unittest

from models import model_fault
from support import LoomTest

from bitloom.checker import fault_of
from bitloom.texts import read_design
from bitloom.unrolling import flat_of, instances_of, things_of

I = (0, 0, 2)


def empty_rounds(many):
    """A design whose one item are rounds without items."""
    return (("x", (), (("each", "i", ("number", 0), ("number", many), ()),)),), ("x", ())


def module(items, rest=""):
    """A design whose first module is x, with items."""
    return read_design(f"design {{ module x {{ {items} }} {rest} top x; }}")


LEAF = "module leaf { in p bits 1; out q bits 1; wire z bits 1; q = p; }"
ROUNDS = "for i = 0 to 5000 { wire w bits 1; w[i] = bits(1, 0); u : leaf (p = bits(1, 0)); }"


class RoundsTest(LoomTest):
    def test_rounds_without_items(self):
        self.assertIsNone(fault_of(empty_rounds(9999)))
        self.assertEqual(fault_of(empty_rounds(10000)), ("great", "", (*I, 0)))
        self.assertEqual(fault_of(empty_rounds(10**9)), ("great", "", (*I, 0)))

    def test_two_uses(self):
        design = module("a : m (); b : m ();", "module m { for i = 0 to 6000 { } }")
        self.assertEqual(fault_of(design), ("great", "b", (0, 1, 2, 0)))

    def test_rounds_with_a_wire_a_drive_and_a_use(self):
        # The each and four in each round: so it is the use of the last round that is one too many.
        self.assertEqual(fault_of(module(ROUNDS, LEAF)), ("great", "", (*I, 0, 4, 2)))
        for ahead, path in [("in a bits 1;", (4, 1)), ("in a bits 1; in b bits 1;", (4, 0)),
                            ("in a bits 1; in b bits 1; in c bits 1;", ())]:
            place = ahead.count(";")
            self.assertEqual(fault_of(module(ahead + ROUNDS, LEAF)), ("great", "", (*I, place, *path)))

    def test_what_is_met_ahead_of_too_many(self):
        for items, told in [
            ("for i = 0 to 5000 { wire w bits 2500 - i; }", None), ("for i = 0 to 5000 { wire w bits 64 - i; }", 64),
            ("for i = 0 to 9000 { for i = 0 to 1 { wire w bits 64 - i; } }", 0),
            ("for i = 0 to 9000 { when 1 / (70 - i) { } }", 70), ("for i = 0 to 9000 { for j = 0 to 9 - i { } }", 10),
            ("for i = 3 to 4 { wire w bits 1; } for j = 0 to 9000 { wire w bits 1; }", 3),
            ("for i = 3 to 4 { for j = 4 to 5 { wire w bits 1; } } for j = 0 to 90 { for i = 0 to 90 { wire w bits 1; } }", 3),
            ("wire w bits 1; for j = 0 to 9000 { when 0 { wire w bits 1; } reg v bits 1 = j * 1000000 <- v; }", 1001),
            ("for j = 0 to 9000 { wire w bits 1; wire w bits 1; }", 0), ("for j = 0 to 9000 { in w bits 1; }", 0),
            ("for j = 0 to 9000 { for k = 0 to 3 { for j = 0 to j { } } }", None),
            ("for j = 0 to 50 { for k = 0 to 90 { wire w bits 1; } }", None),
            ("for j = 0 to 9000 { mem m[9000 - j] bits 1 [a] <- a when a; }", None), ("in a bits 1; a = a;", None),
            # The round stands within further items.
            ("for i = 0 to 9000 { for j = 0 to 1 { wire w bits 64 - i; } }", 64),
            ("for i = 0 to 9000 { for j = 0 to 1 { for k = 0 to 1 { wire w bits 64 - i; } } }", 64),
            ("for i = 0 to 9000 { when 1 { wire w bits 64 - i; } }", 64),
            ("for i = 0 to 9000 { when 0 { } else { wire w bits 64 - i; } }", 64),
            ("for i = 0 to 9000 { for j = 0 to 1 { for i = 0 to 1 { wire w bits 1 + i; } } }", 0),
            # It stands in each number of an item.
            ("for i = 0 to 9000 { reg r bits 64 - i = 0 <- r; }", 64), ("for i = 0 to 9000 { reg r bits 1 = 1 / (9 - i) <- r; }", 9),
            ("for i = 0 to 9000 { mem m[1] bits 64 - i [a] <- a when a; }", 64),
            ("for i = 0 to 9000 { mem m[9 - i] bits 1 [a] <- a when a; }", 9), ("for i = 0 to 9000 { for j = 9 - i to 0 { } }", 10),
            ("for i = 0 to 9000 { for j = 0 to 99 - i { for k = 0 to 1 { } } }", None),
            ("for i = 0 to 4999 { when i - 6000 { } }", None), ("for i = 0 to 9000 { for j = 0 to 1 / (9 - i) { } }", 9),
        ]:
            design = module(items)
            fault = fault_of(design)
            self.assertEqual(fault, model_fault(design), items)
            if told is not None:
                self.assertIn(fault[0], ("number", "width", "many", "double", "round", "great"))

    def test_what_is_unrolled_stays_the_same(self):
        design = module("for i = 0 to 40 { for j = 0 to 40 { } wire w bits 1; when i == 0 { w[i] = bits(1, 1); } "
                        "else { w[i] = ~w[i - 1]; } } out z bits 1; z = w[39];")
        self.assertIsNone(fault_of(design))
        self.assertEqual(instances_of(design), [("", "x", ())])
        self.assertEqual(things_of(design), [("wire", f"w.{k}", 1) for k in range(40)] + [("out", "z", 1)])
        self.assertEqual(len(flat_of(design)[3]), 40)

    def test_by_chance(self):
        dice = random.Random(1)
        met = set()
        for _ in range(160):
            design = random_design(dice)
            fault = fault_of(design)
            self.assertEqual(fault, model_fault(design), design)
            met.add(fault and fault[0])
        self.assertLessEqual({None, "great", "number", "width", "double", "driven"}, met)

    def test_a_hundred_askings(self):
        design = empty_rounds(9999)
        self.assertLess(min(self.seconds(design) for _ in range(5)), 0.25)
        for great in (empty_rounds(10000), module("a : m (); b : m ();", "module m { for i = 0 to 6000 { } }"),
                      module(ROUNDS, LEAF)):
            self.assertLess(min(self.seconds(great) for _ in range(5)), 0.4)

    def seconds(self, design):
        """How long a hundred askings take."""
        begun = time.perf_counter()
        for _ in range(100):
            fault_of(design)
        return time.perf_counter() - begun


def random_number(dice, names, is_great):
    """A number, mostly without names."""
    if dice.random() < 0.6 or not names:
        return ("number", dice.choice([0, 100, 1000, 2500, 5000, 9999, 12000] if is_great else [0, 1, 1, 1, 2, 3]))
    if dice.random() < 0.5:
        return ("size", dice.choice(names))
    word = dice.choice(["plus", "minus", "less", "same", "times", "over"])
    return (word, ("number", dice.choice([0, 1, 2, 30, 64, 1000, 3000])), ("size", dice.choice(names)))


def random_items(dice, names, many):
    """A tuple of items within the rounds of some names."""
    return tuple(random_item(dice, names) for _ in range(many))


def random_item(dice, names):
    """An item, mostly one with items within it."""
    chance = dice.random()
    if len(names) < 4 and chance < 0.45:
        name = dice.choice("ijk")
        bounds = [random_number(dice, names, is_great) for is_great in (False, dice.random() < 0.6)]
        inner = random_items(dice, [*names, name], dice.choice([0, 0, 1, 1, 2, 3]))
        return ("each", name, ("number", 0) if dice.random() < 0.8 else bounds[0], bounds[1], inner)
    if len(names) < 4 and chance < 0.6:
        branches = [random_items(dice, [*names, "n"], dice.randint(0, most)) for most in (2, 1)]
        return ("when", random_number(dice, names, False), *branches)
    name, width, word = dice.choice("vwxyz"), random_number(dice, names, False), ("word", ("number", 1), ("number", 0))
    place = ("at", name, tuple(("size", other) for other in names if other != "n")) if names else ("name", name)
    return dice.choice([
        ("wire", name, ("number", 1)), ("wire", name, width), ("drive", place, word), ("use", name, "leaf", (), ()),
        ("use", name, "loop", (), ()), ("reg", name, ("number", 1), width, word), ("in", name, width),
    ])


def random_design(dice):
    """A design with many rounds."""
    leaf = ("leaf", (), (("wire", "z", ("number", 1)), ("drive", ("name", "z"), ("word", ("number", 1), ("number", 1)))))
    rounds = ("each", "i", ("number", 0), ("number", dice.choice([1, 30, 3000])), random_items(dice, list("ijk"), 1))
    return (("x", (), random_items(dice, [], dice.randint(1, 4))), leaf, ("loop", (), (rounds,))), ("x", ())


if __name__ == "__main__":
    unittest.main()
