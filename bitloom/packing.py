"""Table nets packed into cell nets."""

from bitloom.tables import truth_over

PLAIN = 2


class Packer:
    """A table net of which a cell net is made; what is packed is told by the numbers of its nodes.

    A cell stands for a register bit or a table, both by their numbers, or for an out that is neither, by its node
    turned below 0.
    """

    def __init__(self, net):
        _, self.many, self.regs, self.tables, self.outs = net
        self.k = net[0]
        self.first = 1 + self.many + len(self.regs)
        self.signals = {node: node - 1 for node in range(1, self.many + 1)}
        self.standing = [self._cell_of_out(node) for node in self.outs]
        for place, node in enumerate(self._wanted_cells()):
            self.signals[node] = self.many + place

    def _cell_of_out(self, node):
        """What the cell stands for whose output an out with a node is."""
        return node if node > self.many else -1 - node

    def _table_at(self, node):
        """The pair of the nodes and of the truth by which a node of the net is told; nodes have no node 0."""
        if node == 0:
            return (), 0
        if node < self.first:
            return (node,), PLAIN
        nodes, truth = self.tables[node - self.first]
        others = tuple([other for other in nodes if other != 0])
        # Node 0 tells nought, so only that half of the truth counts in which it stands last and is 0.
        return others, truth_over(truth, nodes, others + (0,)) & (1 << (1 << len(others))) - 1

    def _inner_of(self, place):
        """The pair of the nodes and of the truth of the cell that stands for something."""
        if place < 0:
            return self._table_at(-1 - place)
        if place < self.first:
            return self._table_at(self.regs[place - self.many - 1][1])
        return self._table_at(place)

    def _wanted_cells(self):
        """The ascending list of what cells stand for, that outs want and what these want."""
        found = {}
        todo = list(self.standing)
        while todo:
            place = todo.pop()
            if place not in found:
                found[place] = True
                todo.extend([node for node in self._inner_of(place)[0] if node > self.many])
        return sorted(found)

    def _cell(self, place):
        """The cell that stands for something."""
        nodes, truth = self._inner_of(place)
        inputs = tuple([self.signals[node] for node in nodes])
        if self.many < place < self.first:
            return inputs, truth, 1, self.regs[place - self.many - 1][0]
        return inputs, truth, 0, 0

    def packed(self):
        """The cell net."""
        cells = [self._cell(place) for place in self.signals if not 0 < place <= self.many]
        return self.k, self.many, tuple(cells), tuple([self.signals[place] for place in self.standing])
