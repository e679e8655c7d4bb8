"""Edges of graphs whose registers are read through, and ways along them."""

from bitloom.graphs import needed_nodes
from bitloom.names import is_below, is_number
from bitloom.sources import Reader


class Ways:
    """The edges of a graph, each told by its source and by how many registers it has."""

    def __init__(self, graph):
        self.given = graph
        self.reader = Reader(graph)
        self.needed = [node for node in needed_nodes(graph) if node >= self.reader.first]
        self.edges = {node: self._edges_of(graph[2][node - self.reader.first]) for node in self.needed}
        self.out_edges = self._edges_of(graph[3])

    def _edges_of(self, literals):
        """The list of the edges that bring some literals."""
        told = [self.reader.followed(literal) for literal in literals]
        return [(source, len(chain)) for source, _, chain in told]

    def is_root(self, node):
        """Whether a node is a root."""
        return self.reader.is_root(node)


class Lags:
    """Lags of a graph's and nodes, roots having 0."""

    def __init__(self, ways, lags):
        self.ways = ways
        self.first = ways.reader.first
        self.lags = lags

    def lag(self, node):
        """The lag of a node."""
        return self.lags[node - self.first] if node >= self.first else 0

    def left(self, edge, lag):
        """How many registers an edge gets that leads to a node with a lag."""
        source, many = edge
        return many + lag - self.lag(source)

    def straight_below(self, node):
        """The list of the and nodes from which edges lead to a needed one that get no registers."""
        lag = self.lag(node)
        found = [edge[0] for edge in self.ways.edges[node] if self.left(edge, lag) == 0]
        return [source for source in found if source >= self.first]

    def ordered(self):
        """The list of the needed and nodes, behind all from which edges lead to them that get no registers."""
        seen = {}
        found = []
        for begin in self.ways.needed:
            todo = [(begin, False)]
            while todo:
                node, is_ready = todo.pop()
                if is_ready:
                    found.append(node)
                elif node not in seen:
                    seen[node] = True
                    todo.append((node, True))
                    todo.extend([(other, False) for other in self.straight_below(node)])
        return found

    def stretches(self):
        """A dict from needed and nodes to how many there are at most on a way without registers to them."""
        found = {}
        for node in self.ordered():
            found[node] = 1 + max([found[other] for other in self.straight_below(node)], default=0)
        return found


def told_way(ways, steps):
    """What steps tell: the source of the first one, their last node, how many they are, and their registers.

    It is None if the steps, which may be anything, are no way.
    """
    if not isinstance(steps, tuple) or not steps:
        return None
    sources = []
    registers = 0
    for pair in steps:
        if not isinstance(pair, tuple) or len(pair) != 2 or not is_number(pair[0]) or not is_below(pair[1], 2):
            return None
        node, side = pair
        if node not in ways.edges:
            return None
        source, many = ways.edges[node][side]
        sources.append(source)
        registers += many
    if sources[1:] != [node for node, _ in steps[:-1]]:
        return None
    return sources[0], steps[-1][0], len(steps), registers
