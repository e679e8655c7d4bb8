"""Graphs with fewer and nodes, or less deep ones, that are alike to given ones."""

from heapq import heapify, heappop, heappush

from bitloom.building import Maker, graph_with, plain_and, remade, told_by
from bitloom.graphs import cut_graph, first_and

NOTHING = ()


class Easer:
    """The and nodes of a graph as they are put behind one another, lesser things standing for some."""

    def __init__(self, first):
        self.maker = Maker(first)
        self.depths = [0 for _ in range(first)]

    def members(self, literal):
        """The pair of the literals of an and node, () of another node."""
        place = (literal >> 1) - self.maker.first
        return self.maker.ands[place] if place >= 0 else NOTHING

    def both(self, one, other):
        """The literal of a thing that is the and of two literals."""
        # Each lesser pair has a member of a lesser node than the pair before, so this comes to an end.
        while True:
            literal = plain_and(one, other)
            if literal is not None:
                return literal
            pair = self.lesser(one, other) or self.lesser(other, one)
            if not pair:
                break
            one, other = pair
        literal = self.maker.both(one, other)
        if len(self.depths) < self.maker.first + len(self.maker.ands):
            self.depths.append(1 + max(self.depths[one >> 1], self.depths[other >> 1]))
        return literal

    def lesser(self, one, other):
        """A pair of literals with the same and, the second one being of a lesser node than the other; () if none."""
        inner = self.members(other)
        outer = self.members(one) if one & 1 == 0 else NOTHING
        if not inner:
            return NOTHING
        known = (one, *outer)
        opposed = any([literal ^ 1 in known for literal in inner])
        if other & 1 == 0:
            if opposed:
                return (one, 0)
            return (other, 1) if one in inner else NOTHING
        if opposed:
            return (one, 1)
        if inner[0] in known:
            return (one, inner[1] ^ 1)
        return (one, inner[0] ^ 1) if inner[1] in known else NOTHING


def _with_needed_ands(graph):
    """A graph with all its registers, and the and nodes that these or its outs need."""
    many_ins, regs, ands, outs = graph
    # All registers are needed where each is told by an out, so they stay, and keep their numbers.
    kept = cut_graph((many_ins, regs, ands, outs + tuple([2 * (many_ins + k + 1) for k in range(len(regs))])))
    return kept[:3] + (kept[3][:len(outs)],)


def eased(graph):
    """A graph that is eased by a given one."""
    first = first_and(graph)
    easer = Easer(first)
    become = remade(graph, easer, [2 * node for node in range(first)])
    return _with_needed_ands(graph_with(graph, easer.maker.ands, become))


def _times_used(graph):
    """The list of how often the nodes of a graph stand in and nodes, registers and outs."""
    _, regs, ands, outs = graph
    first = first_and(graph)
    used = [0 for _ in range(first + len(ands))]
    for literal in [*outs, *[taken for _, taken in regs], *[literal for pair in ands for literal in pair]]:
        used[literal >> 1] += 1
    return used


def _inner_nodes(graph):
    """A dict to True from the and nodes that one and node alone uses, by the literal that is not turned."""
    first = first_and(graph)
    used = _times_used(graph)
    plain = [literal >> 1 for pair in graph[2] for literal in pair if literal & 1 == 0]
    return {node: True for node in plain if node >= first and used[node] == 1}


def _chain_members(graph, node, inner):
    """The list of the literals that are the members of the chain which ends at an and node."""
    first = first_and(graph)
    found = []
    todo = list(graph[2][node - first])
    while todo:
        literal = todo.pop()
        if literal & 1 == 0 and literal >> 1 in inner:
            todo.extend(graph[2][(literal >> 1) - first])
        else:
            found.append(literal)
    return found


def _balanced(easer, literals):
    """The literal of the and of some literals, always the two least deep ones being taken."""
    queue = [(easer.depths[literal >> 1], literal) for literal in list({told: True for told in literals})]
    heapify(queue)
    while len(queue) > 1:
        _, one = heappop(queue)
        _, other = heappop(queue)
        literal = easer.both(one, other)
        heappush(queue, (easer.depths[literal >> 1], literal))
    return queue[0][1]


def levelled(graph):
    """A graph that is eased by the one that eased returns, its chains being told by the least deep members first."""
    graph = eased(graph)
    first = first_and(graph)
    easer = Easer(first)
    inner = _inner_nodes(graph)
    become = [2 * node for node in range(first)]
    for node in range(first, first + len(graph[2])):
        # What a chain goes through has no use of its own.
        members = [] if node in inner else _chain_members(graph, node, inner)
        become.append(_balanced(easer, [told_by(literal, become) for literal in members]) if members else 0)
    return _with_needed_ands(graph_with(graph, easer.maker.ands, become))
