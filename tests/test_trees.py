"""Designs as trees: paths and the first wrong part ([S1.1] to [S1.3])."""

import random
import unittest

from models import C
from samples import TEXTS, kinds_of_parts, random_part, replaced
from support import LOOSE, LoomTest, deep

from bitloom.errors import BadTree, LoomError
from bitloom.texts import read_design
from bitloom.trees import check_tree, part_at, paths_of

ITEMS = (0, 0, 2)


def with_item(item):
    """C with one more item ahead of all others; it stands at (0, 0, 2, 0)."""
    return replaced(C, ITEMS, (item,) + part_at(C, ITEMS))


def with_expression(expression):
    """C whose drive takes an expression; it stands at (0, 0, 2, 3, 2)."""
    return replaced(C, (0, 0, 2, 3, 2), expression)


X, N = ("name", "x"), ("number", 1)


class CheckTest(LoomTest):
    def test_designs(self):
        self.assertIsNone(check_tree(C))
        for text in TEXTS:
            self.assertIsNone(check_tree(read_design(text)))
        dice = random.Random(5)
        for _ in range(100):
            self.assertIsNone(check_tree(random_part(dice, "design", 6)))

    def test_each_word(self):
        items = [
            ("in", "x", N), ("out", "x", N), ("wire", "x", N), ("reg", "x", N, N, X), ("mem", "x", N, N, X, X, X),
            ("drive", X, X), ("drive", ("at", "x", (N, N)), X), ("use", "x", "y", (), ()),
            ("use", "x", "y", (N,), (("p", X),)), ("each", "i", N, N, ()), ("when", N, (), ()),
        ]
        for item in items:
            self.assertIsNone(check_tree(with_item(item)))
            self.fails(BadTree, {"path": (*ITEMS, 0)}, check_tree, with_item((*item, X)))
            self.fails(BadTree, {"path": (*ITEMS, 0)}, check_tree, with_item(item[:-1]))
        expressions = [
            X, ("at", "x", (N,)), ("of", X, "p"), ("read", X, X), ("word", N, N), ("cut", X, N, N), ("mux", X, X, X)
        ]
        expressions += [(word, X) for word in ("not", "all", "any", "odd")]
        pairs = ("and", "or", "xor", "add", "sub", "mul", "eq", "lt", "join", "shl", "shr", "pick")
        expressions += [(word, X, X) for word in pairs]
        for expression in expressions:
            path = (0, 0, 2, 3, 2)
            self.assertIsNone(check_tree(with_expression(expression)))
            self.fails(BadTree, {"path": path}, check_tree, with_expression((*expression, X)))
            self.fails(BadTree, {"path": path}, check_tree, with_expression(expression[:-1]))
        for word in ("plus", "minus", "times", "over", "less", "same"):
            self.assertIsNone(check_tree(with_item(("in", "x", (word, N, ("size", "w"))))))
            self.fails(BadTree, {"path": (*ITEMS, 0, 2)}, check_tree, with_item(("in", "x", (word, N))))

    def test_wrong_parts(self):
        for path, value in [
            ((), (C[0],)), ((), list(C)), ((0,), replaced(C, (0,), ())), ((0,), replaced(C, (0,), list(C[0]))),
            ((0, 0), replaced(C, (0, 0), ("m", (), (), ()))), ((0, 0, 0), replaced(C, (0, 0, 0), "in")),
            ((0, 0, 1), replaced(C, (0, 0, 1), ["w"])), ((0, 0, 1, 0), replaced(C, (0, 0, 1, 0), "W")),
            ((1,), replaced(C, (1,), ("count",))), ((1, 0), replaced(C, (1, 0), 7)),
            ((1, 1), replaced(C, (1, 1), [("number", 8)])), ((1, 1, 0), replaced(C, (1, 1, 0), ("name", "x"))),
            ((1, 1, 0, 1), replaced(C, (1, 1, 0, 1), True)), ((1, 1, 0, 1), replaced(C, (1, 1, 0, 1), -1)),
            ((*ITEMS, 0, 1), with_item(("use", "9", "m", (), ()))),
            ((*ITEMS, 0, 4, 0), with_item(("use", "u", "m", (), (("p", X, X),)))),
            ((*ITEMS, 0, 4, 0, 0), with_item(("use", "u", "m", (), (("P", X),)))),
            ((*ITEMS, 0, 4, 0, 1), with_item(("use", "u", "m", (), (("p", N),)))),
            ((*ITEMS, 0, 1), with_item(("drive", ("of", X, "p"), X))),
            ((*ITEMS, 0, 1, 2), with_item(("drive", ("at", "x", ()), X))),
            ((*ITEMS, 0, 4), with_item(("each", "i", N, N, "in"))),
            ((*ITEMS, 0, 4, 0), with_item(("each", "i", N, N, X))),
            ((*ITEMS, 0, 3), with_item(("when", N, (), []))),
            ((0, 0, 2, 3, 2), with_expression(N)), ((0, 0, 2, 3, 2), with_expression(("in", "x", N))),
            ((0, 0, 2, 3, 2, 1), with_expression(("of", ("not", X), "p"))),
            ((0, 0, 2, 3, 2, 2), with_expression(("of", X, "to"))),
            ((0, 0, 2, 3, 2), with_expression((["not"], X))), ((0, 0, 2, 3, 2), with_expression(())),
        ]:
            with self.subTest(path=path):
                self.fails(BadTree, {"path": path}, check_tree, value)

    def test_anything(self):
        for value in [*LOOSE, deep(7, 60), deep("name", 200), [deep([], 59)], ((deep("x", 58),), {}), LoomError()]:
            with self.assertRaises(BadTree):
                check_tree(value)
        self.fails(BadTree, {"path": (0, 0)}, check_tree, ((deep("x", 57),), None))

    def test_what_is_nested_deep(self):
        number = N
        for _ in range(60):
            number = ("plus", number, N)
        self.assertIsNone(check_tree(with_item(("in", "x", number))))
        item = ("in", "x", N)
        for _ in range(199):
            item = ("when", N, (item,), ())
        self.assertIsNone(check_tree(with_item(item)))
        path = (*ITEMS, 0) + (2, 0) * 199 + (2,)
        self.assertEqual(part_at(with_item(item), path), N)
        wrong = replaced(with_item(item), path, X)
        self.fails(BadTree, {"path": path}, check_tree, wrong)

    def test_one_wrong_part_and_two(self):
        dice = random.Random(11)
        designs = [read_design(text) for text in TEXTS]
        for _ in range(300):
            design = dice.choice(designs)
            parts = kinds_of_parts("design", design)
            one, other = [path for path, _, _ in dice.sample(parts, 2)]
            self.fails(BadTree, {"path": one}, check_tree, replaced(design, one, dice.choice([None, ["x"], "In"])))
            if one != other[: len(one)] and other != one[: len(other)]:
                both = replaced(replaced(design, one, -1), other, True)
                self.fails(BadTree, {"path": min(one, other)}, check_tree, both)


class PartsTest(LoomTest):
    def test_part_at(self):
        self.assertIs(part_at(C, ()), C)
        self.assertEqual(part_at(C, (0, 0, 0)), "count")
        self.assertEqual(part_at(C, [1, 0]), "count")
        self.assertEqual(part_at(C, (0, 0, 2, 2, 4, 2, 2)), ("word", ("size", "w"), ("number", 1)))
        for path, _, part in kinds_of_parts("design", C):
            self.assertEqual(part_at(C, path), part)

    def test_paths_of(self):
        self.assertEqual(paths_of(C, "drive"), [(0, 0, 2, 3)])
        self.assertEqual(paths_of(C, "mux"), [(0, 0, 2, 2, 4)])
        names = [(0, 0, 2, 2, 4, 1), (0, 0, 2, 2, 4, 2, 1), (0, 0, 2, 2, 4, 3), (0, 0, 2, 3, 1), (0, 0, 2, 3, 2)]
        self.assertEqual(self.is_new(paths_of, C, "name"), names)
        self.assertEqual(len(paths_of(C, "number")), 4)

    def test_paths_ascend(self):
        for text in TEXTS:
            design = read_design(text)
            parts = kinds_of_parts("design", design)
            words = {part[0] for _, kind, part in parts if kind in ("item", "number", "place", "expression")}
            for word in words:
                told = [
                    path for path, kind, part in parts
                    if kind in ("item", "number", "place", "expression") and part[0] == word
                ]
                self.assertEqual(paths_of(design, word), sorted(told))

    def test_no_other_words(self):
        for word in ("count", "w", "now", "design", "module", "", "top", "expression"):
            self.assertEqual(paths_of(C, word), [])

    def test_what_happens_to_begin_with_a_word(self):
        items = (("use", "name", "use", (), (("name", X), ("not", X))), ("drive", ("name", "at"), X))
        design = ((("use", ("drive", "not"), items), ("at", (), ())), ("use", ()))
        self.assertIsNone(check_tree(design))
        self.assertEqual(paths_of(design, "use"), [(0, 0, 2, 0)])
        self.assertEqual(paths_of(design, "drive"), [(0, 0, 2, 1)])
        self.assertEqual(paths_of(design, "not"), [])
        self.assertEqual(paths_of(design, "at"), [])
        ports = [(0, 0, 2, 0, 4, 0, 1), (0, 0, 2, 0, 4, 1, 1), (0, 0, 2, 1, 1), (0, 0, 2, 1, 2)]
        self.assertEqual(paths_of(design, "name"), ports)


if __name__ == "__main__":
    unittest.main()
