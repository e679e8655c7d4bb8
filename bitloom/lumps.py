"""Lumps of and nodes, ways to them that have no node in common, and the cuts that such ways tell."""

from bitloom.graphs import first_and


class Lump:
    """The lump of an and node, by the labels of all nodes below it, and some ways to it without common nodes.

    A way is told by the nodes on it: above has for each of them the next one, None for the last one, and below
    the one ahead, if there is one. Searches go from the lump downwards; they come to each node from above, at its
    door (2 * n), and leave it downwards, at its gate (2 * n + 1).
    """

    def __init__(self, graph, labels, node):
        self.ands = graph[2]
        self.first = first_and(graph)
        self.label = max([labels[literal >> 1] for literal in self.ands[node - self.first]])
        self.heads = {}
        self.nodes = {node: True}
        self.above = {}
        self.below = {}
        self.cut = None
        todo = [node]
        while todo:
            here = todo.pop()
            for literal in self.ands[here - self.first]:
                inner = literal >> 1
                if labels[inner] < self.label:
                    self.heads[inner] = True
                elif inner not in self.nodes:
                    self.nodes[inner] = True
                    todo.append(inner)

    def widen(self, k):
        """Find ways up to k + 1, or the cut of at most k nodes that there is otherwise."""
        for _ in range(k + 1):
            came = {}
            end = self._searched(came)
            if end is None:
                self.cut = tuple(sorted([place >> 1 for place in came if place & 1 == 0 and place + 1 not in came]))
                return
            self._add_way(came, end)

    def _searched(self, came):
        """The door of an in bit or a register bit to which a further way comes, or None.

        The dict came is told for each place that is come to the one ahead of it, None for the lump.
        """
        todo = [(2 * head, None) for head in self.heads]
        while todo:
            place, ahead = todo.pop()
            if place in came:
                continue
            came[place] = ahead
            node = place >> 1
            if place & 1:
                todo.extend([(literal >> 1 << 1, place) for literal in self.ands[node - self.first]])
                if node in self.above:
                    todo.append((place - 1, place))
            elif node in self.above:
                # One may leave a node with a way only by going back along this.
                if self.above[node] is not None:
                    todo.append((2 * self.above[node] + 1, place))
            elif node < self.first:
                return place
            else:
                todo.append((place + 1, place))
        return None

    def _add_way(self, came, end):
        """Change the ways by what a search came through up to its end."""
        steps = []
        place = end
        while place is not None:
            steps.append((came[place], place))
            place = came[place]
        for ahead, place in steps:
            if ahead is not None and place & 1 and ahead >> 1 != place >> 1:
                # This step goes back along a way, which leads there no more.
                del self.below[place >> 1]
                del self.above[ahead >> 1]
        for ahead, place in steps:
            if ahead is None:
                self.above[place >> 1] = None
            elif ahead & 1 and ahead >> 1 != place >> 1:
                self.above[place >> 1] = ahead >> 1
                self.below[ahead >> 1] = place >> 1

    def ways_there(self):
        """The tuple of the ways, each from its in bit or register bit up to the lump."""
        found = []
        for node in sorted(self.above):
            if node < self.first:
                way = []
                while node is not None:
                    way.append(node)
                    node = self.above[node]
                found.append(tuple(way))
        return tuple(found)


class Labeller:
    """The labels of all nodes of a graph with k, and for each and node a cut by which it has its label."""

    def __init__(self, graph, k):
        self.given = graph
        self.k = k
        self.labels = [0 for _ in range(first_and(graph))]
        self.cuts = {}
        # Of the nodes with greater labels than those ahead of them, but for the least ones, their ways.
        self.ways = {}

    def go_through(self):
        """Label all and nodes."""
        for one, other in self.given[2]:
            self._label(one >> 1, other >> 1)

    def _label(self, one, other):
        """Label the next and node, which has the literals of two nodes."""
        node = len(self.labels)
        greater = max(self.labels[one], self.labels[other])
        cut = self._known_cut(one, other, greater)
        if cut is None and greater:
            lump = Lump(self.given, self.labels, node)
            lump.widen(self.k)
            cut = lump.cut
            if cut is None:
                self.ways[node] = lump.ways_there()
        self.labels.append(greater + 1 if cut is None else greater)
        self.cuts[node] = cut or (min(one, other), max(one, other))

    def _known_cut(self, one, other, greater):
        """The cut by nodes of lesser labels that the cuts of two nodes tell together, or None."""
        if not greater:
            return None
        told = {}
        for node in (one, other):
            part = self.cuts[node] if self.labels[node] == greater else (node,)
            for inner in part:
                told[inner] = True
        return tuple(sorted(told)) if len(told) <= self.k else None
