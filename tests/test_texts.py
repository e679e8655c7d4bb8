"""Texts of designs, written and read ([S1.5] to [S1.8])."""

import random
import unittest

from models import C, model_wrong_place
from samples import TEXTS, random_part
from support import LoomTest

from bitloom.errors import BadText
from bitloom.lexemes import lexemes
from bitloom.texts import design_text, expression_text, number_text, read_design, read_expression, read_number
from bitloom.trees import check_tree, part_at

C_TEXT = """design {
  module count size w {
    in on bits 1;
    out now bits w;
    reg r bits w = 0 <- on ? r + bits(w, 1) : r;
    now = r;
  }
  top count size 8;
}
"""

LONG_TEXT = """design {
  module leaf {
  }
  module all_of size n, k {
    in a bits n;
    out z bits n * (k + 1);
    wire t bits 8;
    reg r bits n = n - 1 <- r;
    mem m[n + 1] bits 8 [a{0:2}] <- t when a ! r;
    z = a # r;
    t[0, k / 2] = m@a;
    u : leaf ();
    for i = 0 to n {
      for j = i + 1 to n {
        w : leaf size i, j * (k - 1) (p = a, q = u.z);
      }
      when i == 0 {
        t[i] = a;
      } else {
        t[i] = t[i - 1];
        when k {
        }
      }
    }
    when n < k {
      wire y bits 1;
    }
  }
  top all_of size 3, 4 + 5;
}
"""

A, B, D = ("name", "a"), ("name", "b"), ("name", "c")
ONE, W = ("number", 1), ("size", "w")


def number_pairs():
    """The words of numbers with two parts, with sign and level."""
    return [("times", "*", 3), ("over", "/", 3), ("plus", "+", 2), ("minus", "-", 2), ("less", "<", 1), ("same", "==", 1)]


PAIRS = [
    ("pick", "!", 10), ("mul", "*", 9), ("add", "+", 8), ("sub", "-", 8), ("join", "#", 7), ("shl", "<<", 6),
    ("shr", ">>", 6), ("lt", "<", 5), ("eq", "==", 4), ("and", "&", 3), ("xor", "^", 2), ("or", "|", 1),
]

PARTS = [
    ("a", A, 13), ("a[1, w]", ("at", "a", (ONE, W)), 13), ("a.p", ("of", A, "p"), 13),
    ("a[1].p", ("of", ("at", "a", (ONE,)), "p"), 13), ("a@b", ("read", A, B), 13),
    ("a@b@c", ("read", A, ("read", B, D)), 13), ("a@b.c", ("read", A, ("of", B, "c")), 13),
    ("bits(w, 1)", ("word", W, ONE), 13), ("a{w:1}", ("cut", A, W, ONE), 12),
    ("a{1:1}{w:w}", ("cut", ("cut", A, ONE, ONE), W, W), 12), ("a@b{1:1}", ("cut", ("read", A, B), ONE, ONE), 12),
    ("~a", ("not", A), 11), ("&a", ("all", A), 11), ("|a", ("any", A), 11), ("^a", ("odd", A), 11),
    ("~&|^a", ("not", ("all", ("any", ("odd", A)))), 11), ("~a{1:1}", ("not", ("cut", A, ONE, ONE)), 11),
    ("a ? b : c", ("mux", A, B, D), 0),
] + [(f"a {sign} b", (word, A, B), level) for word, sign, level in PAIRS]


def held(text, level, wanted):
    """A text, in parentheses if its level is less than wanted."""
    return f"({text})" if level < wanted else text


class WriteTest(LoomTest):
    def test_c(self):
        self.assertEqual(design_text(C), C_TEXT)
        self.assertEqual(read_design(C_TEXT), C)

    def test_all_lines(self):
        design = read_design(LONG_TEXT)
        self.assertIsNone(check_tree(design))
        self.assertEqual(design_text(design), LONG_TEXT)

    def test_numbers(self):
        self.assertEqual(number_text(("number", 10**39)), "1" + "0" * 39)
        for word, sign, level in number_pairs():
            for inner, other, below in number_pairs():
                left, right = (word, (inner, ONE, W), W), (word, ONE, (inner, ONE, W))
                self.assertEqual(number_text(left), held(f"1 {other} w", below, level) + f" {sign} w")
                self.assertEqual(number_text(right), f"1 {sign} " + held(f"1 {other} w", below, level + 1))
                self.assertEqual(read_number(number_text(left)), left)
                self.assertEqual(read_number(number_text(right)), right)

    def test_expressions_in_all_places(self):
        for text, part, level in PARTS:
            places = [
                ("{}", part, 0), ("~{}", ("not", part), 11), ("&{}", ("all", part), 11), ("|{}", ("any", part), 11),
                ("^{}", ("odd", part), 11), ("a@{}", ("read", A, part), 13), ("{} ? b : c", ("mux", part, B, D), 1),
                ("a ? {} : c", ("mux", A, part, D), 0), ("a ? b : {}", ("mux", A, B, part), 0),
                ("{}{{1:w}}", ("cut", part, ONE, W), 12),
            ]
            for word, sign, wanted in PAIRS:
                places.append(("{} " + sign + " b", (word, part, B), wanted))
                places.append(("a " + sign + " {}", (word, A, part), wanted + 1))
            for frame, whole, wanted in places:
                with self.subTest(text=text, frame=frame):
                    told = frame.format(held(text, level, wanted))
                    self.assertEqual(expression_text(whole), told)
                    self.assertEqual(read_expression(told), whole)

    def test_numbers_within_expressions_need_none(self):
        less = ("less", ONE, W)
        self.assertEqual(expression_text(("cut", A, less, ("plus", W, ONE))), "a{1 < w:w + 1}")
        self.assertEqual(expression_text(("word", less, less)), "bits(1 < w, 1 < w)")
        self.assertEqual(expression_text(("at", "a", (less, less))), "a[1 < w, 1 < w]")

    def test_what_is_written_is_read_back(self):
        dice = random.Random(17)
        for _ in range(150):
            design = random_part(dice, "design", dice.randint(2, 7))
            self.assertEqual(read_design(design_text(design)), design)
            expression = random_part(dice, "expression", dice.randint(1, 7))
            self.assertEqual(read_expression(expression_text(expression)), expression)
            number = random_part(dice, "number", dice.randint(1, 7))
            self.assertEqual(read_number(number_text(number)), number)
            self.assertEqual(part_at(design, (1, 0)), design[1][0])

    def test_what_is_nested_deep(self):
        item = ("in", "x", ONE)
        for _ in range(198):
            item = ("each", "i", ONE, W, (item,))
        design = ((("m", (), (item,)),), ("m", ()))
        lines = design_text(design).split("\n")
        self.assertEqual(lines[200], "  " * 200 + "in x bits 1;")
        self.assertEqual(read_design(design_text(design)), design)
        expression, number = A, ONE
        for _ in range(60):
            expression, number = ("add", A, expression), ("minus", W, number)
        self.assertEqual(read_expression(expression_text(expression)), expression)
        self.assertEqual(read_number(number_text(number)), number)


class ReadTest(LoomTest):
    def test_blanks_and_comments_tell_nothing(self):
        text = C_TEXT.replace(" ", " // { $\n ").replace(";", "\n;//") + "// end"
        self.assertEqual(read_design(text), C)
        tight = "design{module count size w{in on bits 1;out now bits w;reg r bits w=0<-on?r+bits(w,1):r;now=r;}top count size 8;}"
        self.assertEqual(read_design(tight), C)

    def test_parentheses_tell_nothing(self):
        self.assertEqual(read_expression("(((a)))"), A)
        self.assertEqual(read_expression("((a) + (b)){(1):(w)}"), ("cut", ("add", A, B), ONE, W))
        self.assertEqual(read_number("((1))*(w)"), ("times", ONE, W))

    def test_signs_stand_between_from_the_left(self):
        self.assertEqual(read_expression("a - b + c"), ("add", ("sub", A, B), D))
        self.assertEqual(read_expression("a < b < c"), ("lt", ("lt", A, B), D))
        self.assertEqual(read_expression("a ! b ! c"), ("pick", ("pick", A, B), D))
        self.assertEqual(read_expression("a ? b : c ? a : b"), ("mux", A, B, ("mux", D, A, B)))
        self.assertEqual(read_expression("a ? b ? c : a : b"), ("mux", A, ("mux", B, D, A), B))
        self.assertEqual(read_expression("a & &b | |c"), ("or", ("and", A, ("all", B)), ("any", D)))
        self.assertEqual(read_number("1 - w - 1"), ("minus", ("minus", ONE, W), ONE))
        self.assertEqual(read_number("1 == w < 1"), ("less", ("same", ONE, W), ONE))

    def test_long_numerals(self):
        self.assertEqual(read_number("9" * 40), ("number", 10**40 - 1))
        self.fails(BadText, {"place": 2}, read_number, "1 " + "9" * 90000)
        self.fails(BadText, {"place": 1}, read_number, "0" * 90000)
        self.fails(BadText, {"place": 6}, read_expression, "a + b " + "7" * 90000)
        self.fails(BadText, {"place": 0}, read_expression, "5" * 90000)

    def test_wrong_places_that_are_told(self):
        for text, place in [
            ("design { }", 9), ("design { module m { in a 8", 25), ("design { module m { } top m ; } m", 32),
            ("", 0), ("design", 6), ("design // {", 11), ("design { module m { } top m ; }  $", 33),
            ("design { module m { in a bits 8 $", 32), ("design { module m { } top m ; } m $", 32),
            ("module", 0), ("design { module m { in in bits 1; } top m; }", 23),
        ]:
            self.fails(BadText, {"place": place}, read_design, text)
        for text, place in [
            ("u.x@b", 3), ("a{0:1}.p", 6), ("(a).p", 3), ("(a)@b", 3), ("(a)[1]", 3), ("a.p.q", 3), ("a@b.c@a", 5),
            ("a[]", 2), ("a[1,]", 4), ("a ? b", 5), ("a ? b ; c", 6), ("a{0}", 3), ("bits(1)", 6), ("a b", 2),
            ("a + ", 4), ("a <- b", 2), ("a = b", 2), ("a.bits", 2), ("- a", 0), ("a ~ b", 2), ("a + > b", 4),
            ("a@~b", 2), ("a@b{1:1}{", 9), ("1", 0), ("a + (b", 6), ("a)", 1), ("w == 1", 5), (">", 0), ("a >", 2),
        ]:
            self.fails(BadText, {"place": place}, read_expression, text)
        for text, place in [
            ("", 0), ("1 +", 3), ("(1", 2), ("1)", 1), ("w & w", 2), ("1 ? 1 : 1", 2), ("-1", 0), ("w[1]", 1),
            ("1 < = 2", 4), ("bits", 0), ("w.x", 1), ("w / / 2", 4), ("12ab", 2),
        ]:
            self.fails(BadText, {"place": place}, read_number, text)
        self.assertEqual(read_number("w // 2"), W)

    def test_two_wrong_places(self):
        self.fails(BadText, {"place": 2}, read_expression, "a b $")
        self.fails(BadText, {"place": 2}, read_expression, "a $ b c")
        self.fails(BadText, {"place": 1}, read_number, "w\tw w")
        self.fails(BadText, {"place": 4}, read_number, "1 + " + "a" * 17 + " 3 3")

    def test_each_lexeme_left_out_or_told_twice(self):
        for text in [LONG_TEXT, *TEXTS]:
            found = [lexeme for _, lexeme, _ in lexemes(text)]
            for k in range(0, len(found), 3):
                self.agrees(" ".join(found[:k] + found[k + 1:]), "DESIGN", read_design)
                self.agrees(" ".join(found[:k] + found[k - 1:]), "DESIGN", read_design)
                self.agrees(" ".join(found[:k]), "DESIGN", read_design)

    def agrees(self, text, form, call):
        """What is told of a text agrees with a recognizer that tries all ways at once."""
        place = model_wrong_place(text, form)
        if place is None:
            call(text)
        else:
            self.fails(BadText, {"place": place}, call, text)

    def test_by_chance(self):
        dice = random.Random(23)
        more = (
            "design module size in out wire reg mem bits for to when else top { } ( ) [ ] ; , . : = ? ! @ # + - * / < "
            "~ & | ^ << >> == <- a b 0 1 12 $ A 007"
        ).split()
        forms = [("DESIGN", read_design), ("E0", read_expression), ("N1", read_number)]
        kinds = [("design", design_text), ("expression", expression_text), ("number", number_text)]
        for _ in range(800):
            k = dice.choice([0, 1, 1, 2])
            text = kinds[k][1](random_part(dice, kinds[k][0], 4))
            found = [lexeme for _, lexeme, _ in lexemes(text)]
            for _ in range(dice.randint(1, 3)):
                at = dice.randint(0, len(found))
                found[at:at + dice.randint(0, 1)] = [dice.choice(more)] * dice.randint(0, 2)
            text = "".join(lexeme + dice.choice([" ", "", "\n", " // x\n"]) for lexeme in found)
            self.agrees(text, *forms[k])

    def test_long_texts(self):
        rows = "".join(f"t{k % 9} = a + b; // {k}\n" for k in range(4000))
        text = "design { module m { " + rows + "} top m; }"
        self.assertEqual(len(read_design(text)[0][0][2]), 4000)
        self.fails(BadText, {"place": len(text) + 1}, read_design, text + " $")
        self.fails(BadText, {"place": 100000}, read_expression, "(" * 100000)
        self.fails(BadText, {"place": 99999}, read_expression, "~" * 99999 + ">")


if __name__ == "__main__":
    unittest.main()
