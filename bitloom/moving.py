"""Registers moved by lags."""

from bitloom.building import Maker
from bitloom.graphrun import node_values, start_state
from bitloom.periods import early_lags, least_period, period
from bitloom.ways import Lags, Ways


class Edge:
    """What brings a literal: its source, whether it turns, its chain, and how many registers it gets."""

    def __init__(self, told, many):
        self.source, self.turns, self.chain = told
        self.many = many


class Shelf:
    """Registers behind sources, such as begin alike being one; each has its start and the number of the one ahead.

    The number ahead of the first register behind a source is that of the source, turned below 0.
    """

    def __init__(self):
        self.shelved = []
        self.number_of = {}

    def put(self, edge, starts):
        """The number of the last one of the registers of an edge, which begin as told."""
        place = -1 - edge.source
        for bit in starts:
            if (place, bit) not in self.number_of:
                self.number_of[(place, bit)] = len(self.shelved)
                self.shelved.append((bit, place))
            place = self.number_of[(place, bit)]
        return place


class Mover:
    """A graph whose registers are moved by right lags."""

    def __init__(self, graph, lags):
        self.given = graph
        self.ways = Ways(graph)
        self.lags = Lags(self.ways, lags)
        self.late_by = max([0, *[self.lags.lag(node) for node in self.ways.needed]])
        self.edges = {}
        for node in self.ways.needed:
            self.edges[node] = self._edges_to(graph[2][node - self.lags.first], self.lags.lag(node))
        self.out_edges = self._edges_to(graph[3], 0)
        self.rings = self._ring_registers()
        self.history = self._passed()
        self.shelf = Shelf()
        self.become = {}

    def _edges_to(self, literals, lag):
        """The list of the edges that bring some literals to a node with a lag."""
        found = []
        for literal in literals:
            told = self.ways.reader.followed(literal)
            found.append(Edge(told, self.lags.left((told[0], len(told[2])), lag)))
        return found

    def _all_edges(self):
        """The list of all edges."""
        return [edge for node in self.ways.needed for edge in self.edges[node]] + self.out_edges

    def _ring_registers(self):
        """The ascending list of the registers on the rings of the still registers that are sources."""
        found = {}
        for edge in self._all_edges():
            node = edge.source
            while node in self.ways.reader.still and node not in found:
                found[node] = True
                node = self.ways.reader.next_literal(node) >> 1
        return sorted(found)

    def _passed(self):
        """The list of the lists of the values of all nodes, clock by clock, that the new registers' starts ask for."""
        clocks = [-1 - self.lags.lag(edge.source) for edge in self._all_edges() if edge.many]
        last = max([0 if self.rings else -1 - self.late_by, *clocks])
        noughts = tuple([0 for _ in range(self.given[0])])
        state = start_state(self.given)
        found = []
        for _ in range(last + self.late_by + 1):
            values = node_values(self.given, state, noughts)
            state = tuple([values[literal >> 1] ^ literal & 1 for _, literal in self.given[1]])
            found.append(values)
        return found

    def _starts(self, edge):
        """The list of the bits with which the registers of an edge begin, from the source on."""
        # What the chain begins with is what the source would have been, clock by clock, ahead of the first one.
        ahead = []
        turns = 0
        for node in edge.chain[::-1]:
            bit, literal = self.given[1][node - self.given[0] - 1]
            turns ^= literal & 1
            ahead.append(bit ^ turns)
        first = self.late_by - 1 - self.lags.lag(edge.source)
        found = []
        for place in range(first, first - edge.many, -1):
            found.append(self.history[place][edge.source] if place >= 0 else ahead[-1 - place])
        return found

    def _placed(self, edge):
        """The number of the last register of an edge, None if it gets none."""
        return self.shelf.put(edge, self._starts(edge)) if edge.many else None

    def _register_literal(self, place):
        """The literal of a register of the shelf."""
        return 2 * (self.given[0] + 1 + len(self.rings) + place)

    def _brought(self, edge, place):
        """The literal that an edge brings, place being the number of its last register."""
        literal = self.become[edge.source] if place is None else self._register_literal(place)
        return literal ^ edge.turns

    def _registers(self):
        """The list of the pairs of all registers."""
        found = []
        for node in self.rings:
            literal = self.ways.reader.next_literal(node)
            found.append((self.history[self.late_by][node], self.become[literal >> 1] ^ literal & 1))
        for bit, place in self.shelf.shelved:
            found.append((bit, self.become[-1 - place] if place < 0 else self._register_literal(place)))
        return found

    def moved(self):
        """The moved graph."""
        many_ins = self.given[0]
        places = {node: [self._placed(edge) for edge in self.edges[node]] for node in self.ways.needed}
        out_places = [self._placed(edge) for edge in self.out_edges]
        self.become = {node: 2 * node for node in range(many_ins + 1)}
        for k, node in enumerate(self.rings, start=many_ins + 1):
            self.become[node] = 2 * k
        maker = Maker(many_ins + 1 + len(self.rings) + len(self.shelf.shelved))
        for node in self.lags.ordered():
            one, other = [self._brought(edge, place) for edge, place in zip(self.edges[node], places[node])]
            self.become[node] = maker.both(one, other)
        outs = [self._brought(edge, place) for edge, place in zip(self.out_edges, out_places)]
        return many_ins, tuple(self._registers()), tuple(maker.ands), tuple(outs)


def moved(graph, lags):
    """The pair of the graph whose registers are moved by right lags, and of its shift."""
    mover = Mover(graph, lags)
    return mover.moved(), mover.late_by


def moved_least(graph):
    """The pair that moved returns for early lags with the least period of a graph."""
    least = least_period(graph)
    if period(graph) == least:
        return moved(graph, tuple([0 for _ in graph[2]]))
    return moved(graph, early_lags(graph, least))
