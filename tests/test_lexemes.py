"""Lexemes ([S1.4])."""

import random
import unittest

from models import KEYWORDS, model_lexemes
from support import LoomTest

from bitloom.errors import BadText
from bitloom.lexemes import lexemes

SIGNS = "{ } ( ) [ ] ; , . : = ? ! @ # + - * / < ~ & | ^ << >> == <-".split()


def told(text):
    """The lexemes of a text, without sorts and places."""
    return [lexeme for _, lexeme, _ in lexemes(text)]


class LexemesTest(LoomTest):
    def test_sorts_and_places(self):
        found = self.is_new(lexemes, "in a_1 07<-;")
        self.assertEqual(
            found,
            [
                ("keyword", "in", 0), ("name", "a_1", 3), ("numeral", "0", 7), ("numeral", "7", 8), ("sign", "<-", 9),
                ("sign", ";", 11),
            ],
        )
        self.assertTrue(all(type(one) is tuple for one in found))
        self.assertEqual(lexemes(""), [])

    def test_each_keyword_and_sign(self):
        for word in KEYWORDS:
            self.assertEqual(lexemes(word), [("keyword", word, 0)])
            self.assertEqual(lexemes(word + "_"), [("name", word + "_", 0)])
        for sign in SIGNS:
            self.assertEqual(lexemes(" " + sign), [("sign", sign, 1)])
        self.assertEqual(told("each number name drive")[0], "each")
        self.assertEqual({sort for sort, _, _ in lexemes("each number name drive")}, {"name"})

    def test_numerals(self):
        self.assertEqual(told("007"), ["0", "0", "7"])
        self.assertEqual(told("12ab"), ["12", "ab"])
        self.assertEqual(told("100"), ["100"])
        self.assertEqual(told("0x1"), ["0", "x1"])
        self.assertEqual(told("9" * 100000), ["9" * 100000])
        self.assertEqual(told("0" * 5000), ["0"] * 5000)

    def test_longest_signs(self):
        self.assertEqual(told("<<-"), ["<<", "-"])
        self.assertEqual(told("a<-b"), ["a", "<-", "b"])
        self.assertEqual(told("<<<"), ["<<", "<"])
        self.assertEqual(told("==="), ["==", "="])
        self.assertEqual(told("<=="), ["<", "=="])
        self.assertEqual(told("&&||"), ["&", "&", "|", "|"])

    def test_words_are_at_most_16_long(self):
        self.assertEqual(told("a" * 16), ["a" * 16])
        self.fails(BadText, {"place": 0}, lexemes, "a" * 17)
        self.fails(BadText, {"place": 3}, lexemes, "a, " + "b1_" * 6)
        self.assertEqual(told("a" * 16 + " " + "b" * 16), ["a" * 16, "b" * 16])

    def test_blanks_and_comments(self):
        self.assertEqual(lexemes(" \n a // b $\n c"), [("name", "a", 3), ("name", "c", 13)])
        self.assertEqual(told("// $"), [])
        self.assertEqual(told("a//"), ["a"])
        self.assertEqual(told("a / / b"), ["a", "/", "/", "b"])
        self.assertEqual(told("a///b\n/c"), ["a", "/", "c"])
        self.assertEqual(told("//\n//\t>\na"), ["a"])

    def test_what_begins_no_lexeme(self):
        for sign in "\t$%\"'\\`_>ABZ":
            self.fails(BadText, {"place": 2}, lexemes, "a " + sign + " $")
            self.assertEqual(told("a //" + sign), ["a"])
        self.fails(BadText, {"place": 2}, lexemes, ">>>")
        self.fails(BadText, {"place": 1}, lexemes, "aB")
        self.fails(BadText, {"place": 1}, lexemes, "a\t$")

    def test_as_deep_and_long_as_may_be(self):
        self.assertEqual(told("(" * 100000), ["("] * 100000)
        self.assertEqual(told("~" * 50000 + "{" * 50000), ["~"] * 50000 + ["{"] * 50000)

    def test_by_a_model(self):
        dice = random.Random(3)
        for _ in range(400):
            text = "".join(dice.choice(["a", "b2", "0", "17", " ", "\n", "//", "<", "-", "=", ">", "{", "in", "$"])
                           for _ in range(dice.randint(0, 12)))
            found, wrong = model_lexemes(text)
            if wrong is None:
                self.assertEqual(lexemes(text), found)
            else:
                self.fails(BadText, {"place": wrong}, lexemes, text)


if __name__ == "__main__":
    unittest.main()
