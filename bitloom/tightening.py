"""Tables put into one another, so that a net has fewer of them."""

from bitloom.tables import truth_over, truth_put


def places_of(net):
    """The list of how often each node of a net stands in outs, in regs, or in the nodes of a table."""
    _, many_ins, regs, tables, outs = net
    found = [0 for _ in range(1 + many_ins + len(regs) + len(tables))]
    for node in [*outs, *[node for _, node in regs], *[node for nodes, _ in tables for node in nodes]]:
        found[node] += 1
    return found


def _needed_tables(net):
    """The ascending list of the numbers of the tables that outs and regs need."""
    _, many_ins, regs, tables, outs = net
    first = 1 + many_ins + len(regs)
    needed = {node: True for node in [*outs, *[taken for _, taken in regs]]}
    for node in reversed(range(first, first + len(tables))):
        if node in needed:
            for other in tables[node - first][0]:
                needed[other] = True
    return [node for node in sorted(needed) if node >= first]


class Tightener:
    """A net whose tables become fewer; those that are there still are told by their numbers, ascending."""

    def __init__(self, net):
        self.given = net
        first = 1 + net[1] + len(net[2])
        self.tables = {node: net[3][node - first] for node in _needed_tables(net)}
        self.outs = list(net[4])
        self.taken = [node for _, node in net[2]]

    def tight(self):
        """The tight net."""
        many = len(self.tables) + 1
        while len(self.tables) < many:
            many = len(self.tables)
            self._drop_equal()
            self._put_together()
        return self._told()

    def _drop_equal(self):
        """Let the first one of equal tables stand for the later ones."""
        become = {}
        numbers = {}
        late = {}
        for node in self.tables:
            nodes, truth = self.tables[node]
            now = [become.get(other, other) for other in nodes]
            others = tuple(sorted({other: True for other in now}))
            told = (others, truth_over(truth, now, others))
            if told in numbers:
                become[node] = numbers[told]
            else:
                numbers[told] = node
                late[node] = told
        self.tables = late
        self.outs = [become.get(node, node) for node in self.outs]
        self.taken = [become.get(node, node) for node in self.taken]

    def _places(self):
        """A dict from nodes to how often they stand somewhere."""
        found = {}
        told = [node for nodes, _ in list(self.tables.values()) for node in nodes]
        for node in [*self.outs, *self.taken, *told]:
            found[node] = found.get(node, 0) + 1
        return found

    def _put_together(self):
        """Put tables that stand in one place alone into the one in which they stand, where this has room."""
        places = self._places()
        for node in list(self.tables):
            inner = self._inner_of(node, places)
            while inner is not None:
                both = [*self.tables[node][0], *self.tables[inner][0]]
                others = self._together(node, inner)
                truth = truth_put(self.tables[node], self.tables[inner], inner, others)
                for other in others:
                    # A node of both tables stands in one of them less.
                    places[other] -= both.count(other) - 1
                self.tables[node] = (others, truth)
                del self.tables[inner]
                inner = self._inner_of(node, places)

    def _together(self, node, inner):
        """The tuple of the nodes that a table has when another one is put into it."""
        told = [*self.tables[node][0], *self.tables[inner][0]]
        return tuple(sorted({other: True for other in told if other != inner}))

    def _inner_of(self, node, places):
        """A table that may be put into one, or None."""
        for other in self.tables[node][0]:
            if other in self.tables and places[other] == 1 and len(self._together(node, other)) <= self.given[0]:
                return other
        return None

    def _told(self):
        """The net, its tables having numbers anew."""
        k, many_ins, regs, _, _ = self.given
        first = 1 + many_ins + len(regs)
        numbers = {node: node for node in range(first)}
        for node in self.tables:
            numbers[node] = len(numbers)
        pairs = [(bit, numbers[node]) for (bit, _), node in zip(regs, self.taken)]
        tables = [(tuple([numbers[other] for other in nodes]), truth) for nodes, truth in list(self.tables.values())]
        return k, many_ins, tuple(pairs), tuple(tables), tuple([numbers[node] for node in self.outs])
