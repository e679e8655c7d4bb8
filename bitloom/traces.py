"""Traces: what the ins, registers and outs of a run have, clock by clock, and their texts."""

from bitloom.clocks import outputs, states
from bitloom.errors import BadTrace, UnknownName
from bitloom.flats import widths_of
from bitloom.names import is_value, is_width
from bitloom.tracing import TraceLines, is_signal_name


def _are_names(value):
    """Whether a value is a tuple, not (), of pairs of unlike names and of widths."""
    if not isinstance(value, tuple) or not value:
        return False
    earlier = {}
    for pair in value:
        if not isinstance(pair, tuple) or len(pair) != 2:
            return False
        name, width = pair
        if not is_signal_name(name) or name in earlier or not is_width(width):
            return False
        earlier[name] = True
    return True


def _is_clock(names, value):
    """Whether a value is a tuple of values of the widths of names."""
    if not isinstance(value, tuple) or len(value) != len(names):
        return False
    return all([is_value(value[k], names[k][1]) for k in range(len(names))])


def is_trace(value):
    """Whether a value, which may be anything, is a trace."""
    if not isinstance(value, tuple) or len(value) != 2:
        return False
    names, clocks = value
    if not _are_names(names) or not isinstance(clocks, tuple):
        return False
    return all([_is_clock(names, clock) for clock in clocks])


def trace_of(flat, lots):
    """The trace of the run of a flat design with some lots."""
    ins, outs, regs, _ = flat
    widths = widths_of(flat)
    names = [*ins, *[(reg[0], reg[1]) for reg in regs], *[(name, widths[number]) for name, number in outs]]
    passed = states(flat, lots)
    told = outputs(flat, lots)
    clocks = [(*lot, *passed[clock], *told[clock]) for clock, lot in enumerate(lots)]
    return tuple(names), tuple(clocks)


def _clock_line(names, before, clock):
    """The line of a clock behind another one."""
    told = [f" {name} {clock[k]}" for k, (name, _) in enumerate(names) if clock[k] != before[k]]
    return "@" + "".join(told)


def trace_text(trace):
    """The text of a trace."""
    names, clocks = trace
    lines = ["trace", *[f"= {name} {width}" for name, width in names]]
    before = tuple([0 for _ in names])
    for clock in clocks:
        lines.append(_clock_line(names, before, clock))
        before = clock
    return "".join(line + "\n" for line in [*lines, "end"])


def read_trace(text):
    """The trace that a text tells; raise BadTrace with its first wrong line if it is that of none."""
    # What stands behind the last line feed is no line.
    *lines, rest = text.split("\n")
    reader = TraceLines()
    for number, line in enumerate(lines):
        if not reader.read_line(line):
            raise BadTrace(number)
    if reader.stage != "end" or rest:
        raise BadTrace(len(lines))
    return tuple(reader.pairs), tuple(reader.clocks)


def value_in(trace, name, clock):
    """The value of a name at a clock of a trace; raise UnknownName if it is none of its names."""
    names, clocks = trace
    if isinstance(name, str):
        for k, (other, _) in enumerate(names):
            if other == name:
                return clocks[clock][k]
    raise UnknownName(name)
