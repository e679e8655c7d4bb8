"""Consoles ([S10.6])."""

import random
import unittest

from deskmodels import ModelDesk, design_fault
from models import C, KEYWORDS, model_lexemes, model_wrong_place
from samples import TEXTS
from support import LoomTest

from bitloom.bits import bits_text
from bitloom.console import Console
from bitloom.desk import Desk
from bitloom.texts import design_text, read_design

COUNT = design_text(C).split("design {\n")[1].split("  top")[0]
READY = [f"put {COUNT};", "top count size 3;", "fabric 6 6 40 4 2;"]
PIECES = ["put", "drop", "top", "steps", "fabric", "undo", "redo", "fault", "depth", "shift", "work", "rows", "row", "run", ";", ";", ",", "-",
          "1", "0", "12", "007", "x", "moved", "size", "module", "{", "}", "in", "a", "bits", "//", "\n", "$", "=", ".", "abcdefghijklmnopq", "E"]
LINES = READY + [
    "drop count ;", "top count ;", "top m size 1, 2, 3 ;", "steps ;", "steps merged eased moved ;", "undo ;", "redo ;", "fault ;", "depth ;", "shift ;",
    "work ;", "rows ;", "row 7 ;", "run ;", "run 1 ;", "run 1, 3; 0, 2 ;", "run - ; - ;", "put module m { } ;", "put module m size a { } ;",
]


def console_with(lines):
    """A console of a new desk that has read some lines."""
    console = Console(Desk())
    for line in lines:
        if console.answer(line) != "done":
            raise ValueError(line)
    return console


class ConsoleTest(LoomTest):
    def answers(self, console, *pairs):
        for line, answer in pairs:
            self.assertEqual(console.answer(line), answer, line)

    def test_acts(self):
        desk = Desk()
        console = Console(desk)
        self.answers(
            console, (READY[0], "done"), (READY[1], "done"), (READY[2], "done"), ("steps merged moved;", "done"), ("drop m;", "no name"),
            ("drop count;", "done"), ("undo;", "done"), ("redo;", "done"), ("redo;", "no nothing"), ("undo;", "done"), ("top count;", "done"),
            ("top a size 0, 1000000;", "done"), ("top a size 1000001;", "no top"), ("steps moved other;", "no steps"), ("steps;", "done"),
            ("steps moved moved moved moved moved moved moved moved;", "done"), ("steps a b c d e f g h i;", "no steps"),
            ("fabric 0 1 1 2 1;", "no fabric"), ("fabric 1 1 61 2 1;", "no fabric"), ("fabric 1 1 60 2 1;", "done"),
        )
        self.assertEqual(desk.acts(), [
            ("put", C[0][0]), ("top", "count", (3,)), ("fabric", (6, 6, 40, 4, 2)), ("steps", ("merged", "moved")), ("top", "count", ()),
            ("top", "a", (0, 10**6)), ("steps", ()), ("steps", ("moved",) * 8), ("fabric", (1, 1, 60, 2, 1)),
        ])
        console = Console(Desk())
        self.answers(console, ("undo;", "no nothing"), ("redo;", "no nothing"))

    def test_modules_are_read_whole(self):
        for text in TEXTS:
            design = read_design(text)
            desk = Desk()
            inner = text[text.index("{") + 1:text.rindex("  top")]
            for part in inner.split("\n  module "):
                if part.strip():
                    self.answers(Console(desk), (f"put module {part};", "done"))
            self.assertEqual(desk.modules(), {module[0]: module for module in design[0]})

    def test_faults(self):
        console = Console(Desk())
        self.answers(console, ("fault;", "design top"), ("work;", "design"), ("depth;", "no fault"), ("shift;", "no fault"), ("rows;", "no fault"),
                     ("row 0;", "no fault"), ("run 5, 5, 5;", "no fault"), ("run;", "no fault"), ("work;", "design"))
        self.answers(console, ("put module m { out z bits 1; };", "done"), ("top m;", "done"), ("fault;", "design driven  0 0 2 0"))
        self.answers(console, ("put module m { in a bits 1; out z bits 1; };", "done"), ("fault;", "design driven  0 0 2 1"), ("undo;", "done"))
        self.answers(console, ("put module o { m : m (); };", "done"), ("top o;", "done"), ("fault;", "design driven m 0 0 2 0"))
        self.answers(console, ("top other;", "done"), ("fault;", "design module  1 0"), ("top m;", "done"))
        self.answers(console, ("put module m { out z bits 1; out y bits 1; z = y; y = z; };", "done"))
        answer = console.answer("fault;")
        self.assertIn(answer, ("design y z", "design z y"))
        self.answers(console, ("put module m { out z bits 1; z = bits(1, 1); };", "done"), ("fault;", "net fabric"), ("shift;", "0"),
                     ("depth;", "no fault"), ("fabric 1 1 1 2 1;", "done"), ("fault;", "none"), ("put module m { in a bits 9; };", "done"),
                     ("fault;", "laid ins"), ("depth;", "0"), ("rows;", "no fault"))
        console = console_with(["put module m { out y bits 1; out z bits 1; y = bits(1, 0); z = bits(1, 1); };", "top m;", "fabric 1 1 9 2 8;"])
        self.answers(console, ("fault;", "laid cells"), ("row 0;", "no fault"))
        # Without items there is a machine, too.
        console = console_with(["put module m { };", "top m;", "fabric 1 1 1 2 1;"])
        self.answers(console, ("fault;", "none"), ("run -; -;", "-; -"), ("depth;", "0"), ("rows;", "2"))

    def test_answers(self):
        desk = Desk()
        console = Console(desk)
        for line in READY:
            console.answer(line)
        self.answers(console, ("work;", "none"), ("shift;", "0"), ("work;", "design flat graph steps"), ("depth;", "1"), ("work;", "net"),
                     ("fault;", "none"), ("work;", "cells laid bits"))
        rows = bits_text(desk.bits()).split("\n")[:-1]
        self.answers(console, ("rows;", str(len(rows))), ("row 0;", rows[0]), (f"row {len(rows) - 1};", rows[-1]), (f"row {len(rows)};", "no row"),
                     ("row 9999999999999999999999999999999999999999;", "no row"))
        self.answers(console, ("run 1; 1; 0; 1;", "0; 1; 2; 2"), ("run 1;", "0"), ("run;", ""), ("run 2;", "no lot"), ("run 1; 1, 1;", "no lot"),
                     ("run -;", "no lot"), ("run 0; -;", "no lot"))
        self.answers(console, ("top count size 2;", "done"), ("run 2;", "no lot"), ("work;", "design flat graph steps net cells laid bits"))
        self.answers(console, ("top count size 3;", "done"), ("row 99999;", "no row"), ("work;", "design flat graph steps net cells laid bits"))
        # Askings by others are told as well.
        desk.do(("steps", ("merged",)))
        desk.flat()
        self.answers(console, ("work;", "none"))
        desk.graph()
        self.answers(console, ("work;", "steps"))

    def test_many_ins_and_outs(self):
        console = console_with(["put module m { in a bits 2; in b bits 3; out y bits 3; out z bits 1; y = b + (bits(1, 0) # a); z = ^a; };", "top m;",
                                "fabric 6 6 60 4 2;"])
        self.answers(console, ("run 1, 3; 0, 2 ;", "4, 1; 2, 0"), ("run 3, 7;", "2, 0"), ("run 4, 0;", "no lot"), ("run 0, 8;", "no lot"), ("run 1;", "no lot"))
        console = console_with(["put module m { out y bits 3; reg r bits 3 = 5 <- r + bits(3, 1); y = r; };", "top m;", "fabric 6 6 60 4 2;"])
        self.answers(console, ("run -;", "5"), ("run - ; - ; -;", "5; 6; 7"), ("run 0;", "no lot"), ("run;", ""))
        console = console_with(["put module m { in a bits 1; };", "top m;", "fabric 1 1 1 2 1;"])
        self.answers(console, ("run 1; 0;", "-; -"), ("depth;", "0"))
        # Behind moved registers the machine tells what comes behind lots of noughts.
        text = "put module m { in a bits 3; in b bits 3; out z bits 3; reg r bits 3 = 5 <- (a + b) ^ a * b; z = r; };"
        console = console_with([text, "top m;", "fabric 9 9 60 4 2;", "steps moved;"])
        self.answers(console, ("shift;", "1"), ("run 1, 2; 3, 3;", "0; 1"))

    def test_wrong_lines_by_hand(self):
        console = Console(Desk())
        for line, place in [
            ("", 0), (" \n", 2), ("// put", 6), ("put", 3), ("put ;", 4), ("drop", 4), ("drop ;", 5), ("drop top;", 5), ("drop a b;", 7), ("drop a", 6),
            ("top;", 3), ("top 1;", 4), ("top a size;", 10), ("top a size 1,;", 13), ("top a size 1 2;", 13), ("top a 1;", 6), ("steps 1;", 6),
            ("steps a, b;", 7), ("fabric 1 2 3 4;", 14), ("fabric 1 2 3 4 5 6;", 17), ("fabric 1, 2;", 8), ("undo", 4), ("undo 1;", 5), ("undo; undo;", 6),
            ("redo redo;", 5), ("row;", 3), ("row -;", 4), ("row 07;", 5), ("row 1 2;", 6), ("rows 1;", 5), ("run", 3), ("run 1", 5), ("run 1,", 6),
            ("run ,;", 4), ("run 1;;", 6), ("run ;1;", 5), ("run 1; 2", 8), ("run -, 1;", 5), ("run 1, -;", 7), ("run 1 -;", 6), ("run - -;", 6), ("run a;", 4),
            ("fault $;", 6), ("$fault;", 0), ("fault;$", 6), ("faults;", 0), ("size;", 0), ("1;", 0), (";", 0), ("abcdefghijklmnopq;", 0),
            ("put module m { in a bits 8 } ;", 27), ("put module m { }", 16), ("put design { };", 4), ("Undo;", 0), ("run 1; x " + "9" * 5000, 7),
        ]:
            self.assertEqual(model_wrong_place(line, "LINE"), place, line)
            self.assertEqual(console.answer(line), f"no {place}", line)

    def test_wrong_lines_by_chance_change_nothing(self):
        dice = random.Random(1)
        desk = Desk()
        console = Console(desk)
        for line in READY[:2]:
            console.answer(line)
        console.answer("fault;")
        many = 0
        for _ in range(1500):
            if dice.random() < 0.5:
                line = " ".join(dice.choice(PIECES) for _ in range(dice.randint(0, 7)))
            else:
                line = dice.choice(LINES)
                lexemes = model_lexemes(line)[0]
                _, lexeme, place = dice.choice(lexemes)
                line = line[:place] + dice.choice(["", *PIECES]) + dice.choice(["", " "]) + line[place + dice.choice([0, len(lexeme)]):]
            place = model_wrong_place(line, "LINE")
            if place is not None:
                many += 1
                before = (desk.acts(), desk.work(), desk.design(), desk.steps(), desk.fabric())
                self.assertEqual(console.answer(line), f"no {place}", line)
                self.assertEqual((desk.acts(), desk.work(), desk.design(), desk.steps(), desk.fabric()), before)
            else:
                self.assertIsInstance(console.answer(line), str)
        self.assertGreater(many, 500)
        self.assertIsNone(model_wrong_place("put module m { } ;", "LINE"))
        self.assertIn("top", KEYWORDS)

    def test_lines_of_all_kinds_tell_as_the_desk(self):
        dice = random.Random(2)
        for _ in range(6):
            desk, other = Desk(), Desk()
            console = Console(desk)
            for line in dice.choices(LINES, k=60):
                answer = console.answer(line)
                word, _, tail = line.rstrip(";").strip().partition(" ")
                if word == "fault":
                    fault = other.fault()
                    told = "none" if fault is None else " ".join(
                        [fault[0]] + [" ".join(map(str, part)) if isinstance(part, tuple) else str(part) for part in fault[1:]]
                    )
                    self.assertEqual(answer, told)
                elif word == "work":
                    self.assertEqual(answer, " ".join(desk.work()) or "none")
                elif word in ("undo", "redo"):
                    self.assertIn(answer, ("done", "no nothing"))
                    if answer == "done":
                        getattr(other, word)()
                elif word in ("drop", "top", "steps", "fabric", "put"):
                    act = {"drop": lambda: ("drop", tail.strip()), "steps": lambda: ("steps", tuple(tail.split())),
                           "fabric": lambda: ("fabric", tuple(map(int, tail.split()))),
                           "put": lambda: ("put", read_design(f"design {{ {tail} top m; }}")[0][0]),
                           "top": lambda: ("top", tail.split()[0], tuple(map(int, tail.partition("size")[2].replace(",", " ").split())))}[word]()
                    fault = other.act_word(act)
                    self.assertEqual(answer, "done" if fault is None else f"no {fault}")
                    if fault is None:
                        other.do(act)
                self.assertEqual((desk.acts(), desk.design()), (other.acts(), other.design()))
        self.assertEqual(design_fault(((), None)), ("design", "top"))
        self.assertEqual(ModelDesk().work, ())


if __name__ == "__main__":
    unittest.main()
