"""Registers that parting cannot tell apart, and graphs in which such ones are one."""

from bitloom.graphs import cut_graph
from bitloom.making import made_anew


def _exchanges_of(lots):
    """A dict from each register bit that is no head to the literal by which it is told."""
    found = {}
    for lot in lots:
        head = min(lot)
        for literal in lot:
            if literal != head:
                found[literal // 2] = head ^ literal & 1
    return found


def _late_literals(graph, lots):
    """A dict from each literal of lots to what it is one clock later, by the exchanges of the lots."""
    regs = made_anew(graph, _exchanges_of(lots))[1]
    found = {0: 0}
    for k, (bit, literal) in enumerate(regs, start=1 + graph[0]):
        found[2 * k + bit] = literal ^ bit
    return found


def _parted(lot, late):
    """The list of the lots into which a lot is parted by what its literals are one clock later."""
    parts = {}
    for literal in lot:
        parts.setdefault(late[literal], []).append(literal)
    return [tuple(part) for part in parts.values()]


def find_equals(graph):
    """The list of the lots that parting finds, each ascending, the lots by their heads."""
    starts = [2 * k + bit for k, (bit, _) in enumerate(graph[1], start=1 + graph[0])]
    lots = [(0, *starts)]
    while True:
        late = _late_literals(graph, lots)
        parted = [part for lot in lots for part in _parted(lot, late)]
        if len(parted) == len(lots):
            return sorted(lots)
        lots = parted


def are_closed(graph, lots):
    """Whether lots, in any order, are closed."""
    late = _late_literals(graph, lots)
    return all([late[literal] == late[lot[0]] for lot in lots for literal in lot])


def merged(graph):
    """The graph in which all registers of a lot that parting finds are told by its head, and cut."""
    return cut_graph(made_anew(graph, _exchanges_of(find_equals(graph))))
