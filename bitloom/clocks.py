"""What a flat design does, clock by clock."""

from bitloom.errors import TooGreat
from bitloom.rowrules import rules_of, values_by

MOST_LAPS = 500


def _stepped(flat, rules, lot, state):
    """The pair of what the outs tell and of the next state, by the rules of the rows."""
    _, outs, regs, _ = flat
    values = values_by(rules, lot, state)
    told = tuple([values[number] for _, number in outs])
    return told, tuple([values[reg[3]] for reg in regs])


def _run(flat, rules, state, lots):
    """The pair of the list of what the outs tell and of the list of the states, the one given being the first."""
    told = []
    passed = [state]
    for lot in lots:
        row, after = _stepped(flat, rules, lot, passed[-1])
        told.append(row)
        passed.append(after)
    return told, passed


def row_values(flat, lot, state):
    """The list of the values of all rows."""
    return values_by(rules_of(flat), lot, state)


def start(flat):
    """The state with which a run begins."""
    return tuple([reg[2] for reg in flat[2]])


def step(flat, lot, state):
    """The pair of the tuple that the outs tell and of the next state."""
    return _stepped(flat, rules_of(flat), lot, state)


def outputs(flat, lots):
    """The list of the tuples that the outs tell, clock by clock."""
    return _run(flat, rules_of(flat), start(flat), lots)[0]


def states(flat, lots):
    """The list of the states, one more than there are lots."""
    return _run(flat, rules_of(flat), start(flat), lots)[1]


def run_from(flat, state, lots):
    """The pair of the list of the tuples that the outs tell, from a state on, and of the last state."""
    told, passed = _run(flat, rules_of(flat), state, lots)
    return told, passed[-1]


def for_ever(flat, lots):
    """The pair (first, length) of the laps that come again; raise TooGreat if their sum is too great."""
    rules = rules_of(flat)
    state = start(flat)
    laps = {}
    for lap in range(MOST_LAPS + 1):
        if state in laps:
            return laps[state], lap - laps[state]
        laps[state] = lap
        state = _run(flat, rules, state, lots)[1][-1]
    raise TooGreat()


def first_unlike(one, other, lots):
    """The first clock at which two flat designs tell unlike tuples, or None."""
    rows = outputs(other, lots)
    for clock, row in enumerate(outputs(one, lots)):
        if row != rows[clock]:
            return clock
    return None
