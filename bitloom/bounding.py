"""Labels of and nodes, by which lags are told: the greatest ones, and the least ones.

A label is told for a number c: along an edge with w registers it grows by 1 - c * w at least; roots have 0, and
the source of an out with w registers has c * (w + 1) at most.
"""


class Latest:
    """The greatest labels for a number c, or a paper that there are none."""

    def __init__(self, ways, c):
        self.ways = ways
        self.c = c
        self.labels = {}
        # The step that follows a node on the way by which its label is told: a pair (node, side), or (None, out).
        self.behind = {}
        self.changed = None
        self.paper = None
        self._bound_by_outs()
        rounds = 0
        while self.paper is None and self.changed is not None:
            # A way that comes to no node twice goes through each register once at most.
            if rounds > 1 + len(ways.given[1]):
                self.paper = self._paper_from([], self.changed)
            else:
                self.changed = None
                self._lower()
                rounds += 1

    def _bound_by_outs(self):
        for number, (source, many) in enumerate(self.ways.out_edges):
            if not self.ways.is_root(source):
                self._bound(source, self.c * (many + 1), (None, number))

    def _bound(self, node, bound, step):
        """Tell a node that its label is at most a bound."""
        if node not in self.labels or bound < self.labels[node]:
            self.labels[node] = bound
            self.behind[node] = step
            self.changed = node

    def _lower(self):
        """Tell all nodes of the labels behind them, from the last one on."""
        least = self.c - len(self.ways.needed)
        for node in self.ways.needed[::-1]:
            if node not in self.labels:
                continue
            if self.labels[node] <= least:
                # No way that comes to no node twice tells so little.
                self.paper = self._paper_from([], node)
                return
            for side, (source, many) in enumerate(self.ways.edges[node]):
                bound = self.labels[node] - 1 + self.c * many
                if not self.ways.is_root(source):
                    self._bound(source, bound, (node, side))
                elif bound < 0:
                    self.paper = self._paper_from([(node, side)], node)
                    return

    def _paper_from(self, steps, node):
        """The paper that some steps to a node begin, going on by what is told behind it."""
        places = {}
        steps = list(steps)
        while node is not None and node not in places:
            places[node] = len(steps)
            step = self.behind[node]
            steps.append(step)
            node = step[0]
        if node is None:
            return ("way", tuple(steps[:-1]), steps[-1][1])
        return ("ring", tuple(steps[places[node]:]))


class Earliest:
    """The least labels for a number c for which there are labels, of the nodes to which ways lead from roots."""

    def __init__(self, ways, c):
        self.ways = ways
        self.c = c
        self.labels = {}
        self.sides = {}
        while self._raise():
            pass

    def _raise(self):
        """Tell all nodes of the labels ahead of them; whether a label is greater then."""
        is_changed = False
        for node in self.ways.needed:
            for side, (source, many) in enumerate(self.ways.edges[node]):
                ahead = 0 if self.ways.is_root(source) else self.labels.get(source)
                if ahead is None:
                    continue
                bound = ahead + 1 - self.c * many
                if node not in self.labels or bound > self.labels[node]:
                    self.labels[node] = bound
                    self.sides[node] = side
                    is_changed = True
        return is_changed

    def steps_to(self, node):
        """The tuple of the steps of a way from a root to a node, by which its label is told."""
        steps = []
        while not self.ways.is_root(node):
            side = self.sides[node]
            steps.append((node, side))
            node = self.ways.edges[node][side][0]
        return tuple(steps[::-1])

    def with_others(self):
        """A dict of these labels and of the greatest ones up to c of all other needed nodes."""
        found = {node: self.labels.get(node, self.c) for node in self.ways.needed}
        is_changed = True
        while is_changed:
            is_changed = False
            for node in self.ways.needed[::-1]:
                for source, many in self.ways.edges[node]:
                    bound = found[node] - 1 + self.c * many
                    # Nodes with ways from roots lead to none but such, whose labels keep all that is asked.
                    if source in found and bound < found[source]:
                        found[source] = bound
                        is_changed = True
        return found
