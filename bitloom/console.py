"""Consoles, which read lines for a desk and answer them."""

from bitloom.bits import bits_text
from bitloom.blasting import in_widths
from bitloom.chain import values_told
from bitloom.errors import BadAct, BadText, NothingDone, NotReady
from bitloom.names import is_value
from bitloom.nets import net_depth
from bitloom.reading import read_line

ACTS = ("put", "drop", "top", "steps", "fabric")
STEPS_BACK = ("undo", "redo")


def _part_told(part):
    """What is told of a part of a fault, a blank standing ahead of each member."""
    if part is None:
        return " none"
    if isinstance(part, tuple):
        return "".join([f" {member}" for member in part])
    return f" {part}"


def _fault_told(fault):
    """The answer that tells a fault, or that there is none."""
    if fault is None:
        return "none"
    return fault[0] + "".join([_part_told(part) for part in fault[1:]])


def _is_lot(widths, lot):
    """Whether numbers are as many as there are widths, and none of them is beyond its width."""
    return len(lot) == len(widths) and all([is_value(value, width) for width, value in zip(widths, lot)])


def _lot_told(values):
    """The values of a clock, or a minus if there are none."""
    return ", ".join([str(value) for value in values]) if values else "-"


class Console:
    """A console that works on a desk."""

    def __init__(self, desk):
        self.desk = desk

    def _act(self, told):
        """Do what a line tells that is an act, or takes one back or does it again."""
        if told == ["undo"]:
            self.desk.undo()
        elif told == ["redo"]:
            self.desk.redo()
        else:
            self.desk.do(tuple(told))
        return "done"

    def _row(self, number):
        """The row with a number of the text of the bits."""
        rows = bits_text(self.desk.bits()).split("\n")
        return rows[number] if number < len(rows) - 1 else "no row"

    def _run(self, lots):
        """The values of the outs for lots of values of the ins."""
        bits = self.desk.bits()
        # A twin is asked for the flat design, so that the desk's work stays that of the bits.
        flat = self.desk.twin().flat()
        widths = in_widths(flat)
        if not all([_is_lot(widths, lot) for lot in lots]):
            return "no lot"
        return "; ".join([_lot_told(values) for values in values_told(flat, bits, lots)])

    def _question(self, told):
        """The answer to a line that asks something."""
        word = told[0]
        if word == "fault":
            return _fault_told(self.desk.fault())
        if word == "work":
            return " ".join(self.desk.work()) or "none"
        if word == "depth":
            return str(net_depth(self.desk.net()))
        if word == "shift":
            return str(self.desk.shift())
        if word == "rows":
            return str(len(bits_text(self.desk.bits()).split("\n")) - 1)
        return self._row(told[1]) if word == "row" else self._run(told[1])

    def answer(self, line):
        """Do and ask what a line tells, and return the answer."""
        try:
            told = read_line(line)
        except BadText as wrong:
            return f"no {wrong.place}"
        try:
            return self._act(told) if told[0] in ACTS or told[0] in STEPS_BACK else self._question(told)
        except BadAct as refused:
            return f"no {refused.word}"
        except NothingDone:
            return "no nothing"
        except NotReady:
            return "no fault"
