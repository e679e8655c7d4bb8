"""Cuts chosen so that a cover has few pairs, where its depth leaves room for that."""

from bitloom.graphs import first_and
from bitloom.roots import root_literals

MANY_KEPT = 8
# Shares of tables are counted in so many parts, since a table may be shared by several others.
WHOLE = 1048576


class Leaner:
    """Some cuts of each and node of a graph, of which those are chosen that ask for few further tables."""

    def __init__(self, graph, k, labeller):
        self.given = graph
        self.k = k
        self.first = first_and(graph)
        self.levels = list(labeller.labels)
        self.uses = self._uses()
        # The share of a node tells about how many tables it asks for, those that others ask for too in parts.
        self.shares = [0 for _ in range(self.first)]
        self.known = {}
        for node in range(self.first, len(self.levels)):
            self._know(node, labeller.cuts[node])

    def _uses(self):
        """The list of how often the nodes stand in literals."""
        found = [0 for _ in self.levels]
        for literal in [*root_literals(self.given), *[literal for pair in self.given[2] for literal in pair]]:
            found[literal >> 1] += 1
        return found

    def _cost(self, cut):
        """About how many tables a cut asks for, its own one counted."""
        return WHOLE + sum([self.shares[node] for node in cut])

    def _ways_in(self, node):
        """The list of the cuts by which a node may stand in those of another one, itself alone being one."""
        return [*self.known.get(node, []), (node,)]

    def _know(self, node, cut):
        """Find some cuts of the next and node, a given one among them, the least costly ones first."""
        one, other = [literal >> 1 for literal in self.given[2][node - self.first]]
        found = {cut: True}
        for part in self._ways_in(one):
            for rest in self._ways_in(other):
                both = tuple(sorted({inner: True for inner in [*part, *rest]}))
                if len(both) <= self.k:
                    found[both] = True
        told = sorted([(self._cost(both), len(both), both) for both in found])
        self.known[node] = [both for _, _, both in told[:MANY_KEPT]]
        if cut not in self.known[node]:
            self.known[node].append(cut)
        self.shares.append(told[0][0] // max(1, self.uses[node]))

    def _level_by(self, cut):
        """The least level of a table by a cut."""
        return 1 + max([self.levels[node] for node in cut])

    def cuts_within(self, depth):
        """A dict from and nodes to cuts by which covers have a depth of at most depth, at least the least one."""
        limits = {literal >> 1: depth for literal in root_literals(self.given)}
        chosen = {}
        for node in reversed(range(self.first, len(self.levels))):
            if node in limits:
                fitting = [cut for cut in self.known[node] if self._level_by(cut) <= limits[node]]
                late = [(self._late_cost(cut, limits), cut) for cut in fitting]
                chosen[node] = min(late)[1]
                for inner in chosen[node]:
                    limits[inner] = min(limits.get(inner, depth), limits[node] - 1)
        return chosen

    def _late_cost(self, cut, limits):
        """About how many tables a cut asks for beyond those that are there already."""
        return sum([self.shares[node] for node in cut if node not in limits])
