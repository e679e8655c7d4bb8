"""Traces and their texts ([S3.9], [S3.10])."""

import random
import unittest

from models import F
from samples import random_flat, random_lots, replaced
from support import LOOSE, LoomTest, deep

from bitloom.clocks import outputs, states
from bitloom.errors import BadTrace, UnknownName
from bitloom.traces import is_trace, read_trace, trace_of, trace_text, value_in

TOLD = ((("on", 1), ("count", 3), ("sum", 3)), ((1, 6, 7), (0, 7, 7)))
TEXT = "trace\n= on 1\n= count 3\n= sum 3\n@ on 1 count 6 sum 7\n@ on 0 count 7\nend\n"
GREAT = ((("=", 64), ("@", 1), ("end", 2), ("1", 64)), ((2**64 - 1, 0, 3, 0), (0, 0, 0, 0), (0, 0, 0, 5)))


def random_trace(dice):
    """A trace of few names and clocks."""
    names = dice.sample(["a", "=", "@", "end", "trace", "0", "u.2.x", "~!", "A" * 2000], dice.randint(1, 4))
    pairs = tuple((name, dice.choice([1, 2, 64])) for name in names)
    clocks = [tuple(dice.randrange(2**width) for _, width in pairs) for _ in range(dice.randint(0, 4))]
    return pairs, tuple(clock for clock in clocks for _ in range(dice.choice([1, 1, 2])))


def model_wrong_line(text):
    """The first wrong line of a text, or None: the longest beginning of lines that some trace's text has."""
    lines = text.split("\n")
    ended = lines[:-1]
    for many in range(len(ended) + 1):
        if not may_begin(ended[:many]):
            return many - 1
    if ended and ended[-1] == "end" and lines[-1] == "":
        return None
    return len(ended)


def may_begin(lines):
    """Whether some trace's text begins with lines: by making, of what they tell, the text anew."""
    if not lines:
        return True
    body = lines[1:-1] if len(lines) > 1 and lines[-1] == "end" else lines[1:]
    names, clocks = [], []
    for line in body:
        words = line.split(" ")
        if words[0] == "=" and len(words) == 3 and words[2].isdigit() and len(words[2]) < 30:
            names.append((words[1], int(words[2])))
        elif words[0] == "@" and len(words) % 2 == 1:
            clock = dict(zip([name for name, _ in names], clocks[-1] if clocks else [0] * len(names)))
            for name, numeral in zip(words[1::2], words[2::2]):
                if name not in clock or not numeral.isdigit() or len(numeral) > 30:
                    return False
                clock[name] = int(numeral)
            clocks.append(tuple(clock.values()))
        else:
            return False
    trace = (tuple(names), tuple(clocks))
    if lines == ["trace"]:
        return True
    return is_trace(trace) and trace_text(trace).split("\n")[: len(lines)] == lines


class TraceTest(LoomTest):
    def test_traces(self):
        for trace in (TOLD, GREAT, ((("a", 1),), ()), ((("!" * 2000, 64),), ((2**64 - 1,),)), ((("~", 2),), ((3,), (0,)))):
            self.assertIs(is_trace(trace), True)

    def test_no_traces(self):
        for value in [*LOOSE, deep(TOLD, 38), list(TOLD), TOLD[:1], (*TOLD, ()), ((), ()), ((), ((),))]:
            self.assertIs(is_trace(value), False)
        for path, part in [
            ((0,), list(TOLD[0])), ((0, 1), ["count", 3]), ((0, 1), ("count",)), ((0, 1), ("count", 3, 3)),
            ((0, 1, 0), "on"), ((0, 1, 0), ""), ((0, 1, 0), "a b"), ((0, 1, 0), "a\n"), ((0, 1, 0), "a\tb"),
            ((0, 1, 0), "a" * 2001), ((0, 1, 0), 7), ((0, 1, 0), ("on",)), ((0, 1, 1), 0), ((0, 1, 1), 65),
            ((0, 0, 1), True), ((0, 1, 1), "3"), ((1,), list(TOLD[1])), ((1,), None), ((1, 0), [1, 6, 7]),
            ((1, 0), (1, 6)), ((1, 0), (1, 6, 7, 0)), ((1, 0, 0), 2), ((1, 0, 0), -1), ((1, 0, 0), True),
            ((1, 1, 1), 8), ((1, 1, 1), None), ((0, 1, 1), 2), ((1, 1), ()),
        ]:
            self.assertIs(is_trace(replaced(TOLD, path, part)), False, (path, part))

    def test_trace_of(self):
        self.assertEqual(self.is_new(trace_of, F, [(1,), (0,)]), TOLD)
        self.assertEqual(trace_of(F, ((1,), (0,))), TOLD)
        self.assertEqual(trace_of(F, []), (TOLD[0], ()))
        dice = random.Random(2)
        for _ in range(40):
            flat = random_flat(dice, 20)
            lots = random_lots(dice, [width for _, width in flat[0]], 5)
            trace = trace_of(flat, lots)
            self.assertIs(is_trace(trace), True)
            names = [name for name, _ in trace[0]]
            self.assertEqual(names, [part[0] for part in flat[0] + flat[2] + flat[1]])
            rows = list(zip(lots, states(flat, lots), outputs(flat, lots)))
            self.assertEqual(list(trace[1]), [lot + state + told for lot, state, told in rows])
            self.assertEqual(read_trace(trace_text(trace)), trace)

    def test_text(self):
        self.assertEqual(trace_text(TOLD), TEXT)
        self.assertEqual(trace_text(((("a", 1),), ())), "trace\n= a 1\nend\n")
        told = "trace\n= = 64\n= @ 1\n= end 2\n= 1 64\n@ = 18446744073709551615 end 3\n@ = 0 end 0\n@ 1 5\nend\n"
        self.assertEqual(trace_text(GREAT), told)
        self.assertEqual(trace_text(((("a", 1),), ((0,), (1,), (1,)))), "trace\n= a 1\n@\n@ a 1\n@\nend\n")

    def test_value_in(self):
        self.assertEqual(value_in(TOLD, "count", 0), 6)
        self.assertEqual(value_in(TOLD, "on", 1), 0)
        for name in [*LOOSE, "Count", "o", deep("on", 40), ["on"], ("on",)]:
            self.fails(UnknownName, {"name": name}, value_in, TOLD, name, 0)


class ReadTest(LoomTest):
    def test_what_is_written_is_read_back(self):
        self.assertEqual(read_trace(TEXT), TOLD)
        self.assertEqual(read_trace(trace_text(GREAT)), GREAT)
        dice = random.Random(12)
        for _ in range(100):
            trace = random_trace(dice)
            self.assertEqual(read_trace(trace_text(trace)), trace)

    def test_wrong_lines(self):
        lines = TEXT.split("\n")[:-1]
        for number, line in [
            (0, "Trace"), (0, ""), (0, "trace "), (0, "end"), (0, "= on 1"), (1, "end"), (1, "@"), (1, "trace"),
            (1, "= on"), (1, "= on 1 "), (1, "=  on 1"), (1, "= on 01"), (1, "= on 0"), (1, "= on 65"), (1, "= on x"),
            (1, "= on -1"), (1, "=on 1"), (1, "= o\tn 1"), (1, "= " + "o" * 2001 + " 1"), (1, "= on 1" + "0" * 5000),
            (2, "= on 3"), (2, "="), (3, "trace"), (3, ""), (4, "@ sum 7 count 6"), (4, "@ on 1 on 1"), (4, "@ on"),
            (4, "@ on 0"), (4, "@ on 2"), (4, "@ count 06"), (4, "@ count 8"), (4, "@ no 1"), (4, "@ on 1 "),
            (4, "@  on 1"), (4, "@ "), (4, "@on 1"), (4, "@ count +6"), (4, "@ count " + "9" * 5000), (4, "@ count"),
            (5, "@ on 1"), (5, "@ sum 7"), (5, "@ on 0 count 6"), (5, "= more 1"), (5, "END"), (5, "end "), (6, "ende"),
        ]:
            text = "\n".join([*lines[:number], line, *lines[number + 1:]]) + "\n"
            with self.subTest(line=line):
                self.fails(BadTrace, {"line": number}, read_trace, text)

    def test_lines_behind_the_end(self):
        self.fails(BadTrace, {"line": 7}, read_trace, TEXT + "\n")
        self.fails(BadTrace, {"line": 7}, read_trace, TEXT + "end\n")
        self.fails(BadTrace, {"line": 7}, read_trace, TEXT + "@")
        self.fails(BadTrace, {"line": 7}, read_trace, TEXT + " ")

    def test_texts_that_are_too_short(self):
        for k in range(len(TEXT)):
            self.fails(BadTrace, {"line": TEXT[:k].count("\n")}, read_trace, TEXT[:k])

    def test_the_first_of_two(self):
        self.fails(BadTrace, {"line": 2}, read_trace, TEXT.replace("= sum 3", "= sum 99").replace("count 3", "count 0"))
        self.fails(BadTrace, {"line": 3}, read_trace, TEXT.replace("= sum 3", "= sum 99").replace("end", "e"))
        self.fails(BadTrace, {"line": 4}, read_trace, TEXT.replace("on 1 count 6", "on 3 count 6")[:-1])

    def test_by_a_model(self):
        dice = random.Random(5)
        for _ in range(600):
            text = trace_text(random_trace(dice)).replace("A" * 2000, "A")
            lines = text.split("\n")
            for _ in range(dice.choice([1, 1, 2])):
                words = [word for line in lines for word in line.split(" ")] + ["0", "1", "3", "@", "=", "", "007"]
                k = dice.randrange(len(lines))
                told = lines[k].split(" ")
                j = dice.randrange(len(told))
                told[j:j + dice.randint(0, 1)] = [dice.choice(words)] * dice.randint(0, 2)
                lines[k:k + 1] = [" ".join(told)] * dice.choice([1, 1, 1, 0, 2])
                lines = lines or [""]
            text = "\n".join(lines)
            wrong = model_wrong_line(text)
            if wrong is None:
                self.assertEqual(trace_text(read_trace(text)), text)
            else:
                self.fails(BadTrace, {"line": wrong}, read_trace, text)

    def test_long_ones(self):
        trace = (tuple((f"n{k}", 64) for k in range(300)), tuple((k,) * 300 for k in (2**64 - 1, 0)))
        self.assertEqual(read_trace(trace_text(trace)), trace)
        trace = ((("a", 1),), tuple((k % 2,) for k in range(3000)))
        self.assertEqual(read_trace(trace_text(trace)), trace)


if __name__ == "__main__":
    unittest.main()
