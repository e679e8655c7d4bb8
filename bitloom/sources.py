"""Registers read through: the sources of literals, and what lies between."""

from bitloom.graphs import first_and, needed_nodes


class Reader:
    """A graph whose registers are read through."""

    def __init__(self, graph):
        self.given = graph
        self.first = first_and(graph)
        self.still = {node: True for node in _ring_registers(graph)}

    def is_passed(self, node):
        """Whether a node is a register that is read through."""
        return self.given[0] < node < self.first and node not in self.still

    def is_root(self, node):
        """Whether a node is a root."""
        return node <= self.given[0] or node in self.still

    def next_literal(self, node):
        """The literal that a register takes."""
        return self.given[1][node - self.given[0] - 1][1]

    def followed(self, literal):
        """The triple of the source of a literal, of 1 if it turns and 0 if not, and of its chain."""
        turns = literal & 1
        chain = []
        node = literal >> 1
        while self.is_passed(node):
            chain.append(node)
            literal = self.next_literal(node)
            turns ^= literal & 1
            node = literal >> 1
        return node, turns, tuple(chain)


def _ring_registers(graph):
    """The list of the registers on rings of registers alone."""
    many_ins, regs, _, _ = graph
    first = first_and(graph)
    lap_of = {}
    found = []
    for begin in range(many_ins + 1, first):
        way = []
        node = begin
        while many_ins < node < first and node not in lap_of:
            lap_of[node] = begin
            way.append(node)
            node = regs[node - many_ins - 1][1] >> 1
        # A way that comes to itself ends in a ring; one that comes to an earlier way ends as that one.
        if lap_of.get(node) == begin:
            found.extend(way[way.index(node):])
    return found


def source_of(graph, literal):
    """The triple (node, turns, chain) of a literal of a graph."""
    return Reader(graph).followed(literal)


def needed_ands(graph):
    """The ascending list of the needed and nodes."""
    first = first_and(graph)
    return [node for node in needed_nodes(graph) if node >= first]


def still_registers(graph):
    """The ascending list of the still registers."""
    return sorted(_ring_registers(graph))
