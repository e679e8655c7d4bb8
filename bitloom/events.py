"""Flat designs by events that wake one another in rounds."""

from bitloom.clocks import start
from bitloom.flats import widths_of
from bitloom.rowforms import rows_in
from bitloom.rowrules import rule_of, rules_of


def comes_to(flat, standing, lot, state, number):
    """What the row with a number comes to."""
    rule = rule_of(flat[3][number], widths_of(flat))
    return rule(standing, lot, state)


def _woken(rules, standing, lot, state, numbers):
    """The pairs of the number of a row and of what it comes to, for all of some rows that are uneasy."""
    found = []
    for number in numbers:
        rule = rules[number]
        worth = rule(standing, lot, state)
        if worth != standing[number]:
            found.append((number, worth))
    return found


def _all_woken(rules, standing, lot, state):
    """As _woken, for all rows."""
    return _woken(rules, standing, lot, state, list(range(len(rules))))


def uneasy(flat, standing, lot, state):
    """The ascending list of the numbers of the uneasy rows."""
    return [number for number, _ in _all_woken(rules_of(flat), standing, lot, state)]


def _changed(standing, woken):
    """A standing with other values for some rows, told by pairs."""
    values = list(standing)
    for number, worth in woken:
        values[number] = worth
    return tuple(values)


def after_round(flat, standing, lot, state):
    """The standing behind a round."""
    return _changed(standing, _all_woken(rules_of(flat), standing, lot, state))


def rounds_of(flat, standing, lot, state):
    """The list of the standings behind each round, up to the first one that is at rest."""
    rules = rules_of(flat)
    found = []
    woken = _all_woken(rules, standing, lot, state)
    while woken:
        standing = _changed(standing, woken)
        found.append(standing)
        woken = _all_woken(rules, standing, lot, state)
    return found


def levels(flat):
    """The list of the levels of all rows."""
    found = []
    for row in flat[3]:
        found.append(max([found[number] + 1 for number in rows_in(row)], default=0))
    return found


def prices(flat):
    """The list of the prices of all rows."""
    found = []
    for row in flat[3]:
        found.append(1 + sum([found[number] for number in rows_in(row)]))
    return found


def settled(flat, standing, lot, state, picks):
    """The pair of the standing at rest and of the list of the numbers of the rows as they stepped, one by one."""
    rules = rules_of(flat)
    steps = []
    woken = _all_woken(rules, standing, lot, state)
    while woken:
        pick = picks[len(steps)] if len(steps) < len(picks) else 0
        taken = woken[pick % len(woken)]
        standing = _changed(standing, [taken])
        steps.append(taken[0])
        woken = _all_woken(rules, standing, lot, state)
    return standing, steps


def _readers(flat):
    """For each row the list of the numbers of the rows that have its number."""
    readers = [[] for _ in flat[3]]
    for number, row in enumerate(flat[3]):
        for other in rows_in(row):
            readers[other].append(number)
    return readers


def _rest(rules, readers, standing, lot, state):
    """The pair of the standing at rest, as a list, and of how often a row took another value up to it."""
    values = list(standing)
    count = 0
    woken = _all_woken(rules, values, lot, state)
    while woken:
        count += len(woken)
        for number, worth in woken:
            values[number] = worth
        # A row that took what it came to is uneasy again only by a row that it reads.
        touched = {reader: True for number, _ in woken for reader in readers[number]}
        woken = _woken(rules, values, lot, state, list(touched))
    return values, count


def changes(flat, lots):
    """The list of the changes of a run, clock by clock."""
    rules = rules_of(flat)
    readers = _readers(flat)
    standing = [0 for _ in rules]
    state = start(flat)
    found = []
    for lot in lots:
        standing, count = _rest(rules, readers, standing, lot, state)
        found.append(count)
        state = tuple([standing[reg[3]] for reg in flat[2]])
    return found
