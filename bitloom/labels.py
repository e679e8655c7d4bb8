"""Labels of and nodes, the least depth of covers, and papers that show them."""

from bitloom.cuts import is_cut
from bitloom.graphs import first_and
from bitloom.lumps import Labeller, Lump
from bitloom.names import is_number
from bitloom.roots import root_literals


def labelled(graph, k):
    """The labeller that has gone through a graph."""
    labeller = Labeller(graph, k)
    labeller.go_through()
    return labeller


def labels(graph, k):
    """The tuple of the labels of all and nodes."""
    return tuple(labelled(graph, k).labels[first_and(graph):])


def depth_by(graph, told):
    """The least depth of all covers, by the labels of all nodes."""
    first = first_and(graph)
    found = 0
    for literal in root_literals(graph):
        # Literals that stand for in bits and register bits need no table, turned ones need one.
        level = told[literal >> 1] if literal >> 1 >= first else literal & 1
        found = max(found, level)
    return found


def least_depth(graph, k):
    """The least depth of all covers."""
    return depth_by(graph, labelled(graph, k).labels)


def label_paper(graph, k):
    """A right label paper."""
    labeller = labelled(graph, k)
    found = []
    for node in range(first_and(graph), len(labeller.labels)):
        found.append((labeller.labels[node], labeller.cuts[node], labeller.ways.get(node)))
    return tuple(found)


def _is_way(graph, lump, told, way):
    """Whether a value is a way to a lump, by the labels of all nodes ahead of it."""
    if not isinstance(way, tuple) or not way or not all(is_number(node) for node in way):
        return False
    first = first_and(graph)
    if not 0 < way[0] < first or way[-1] not in lump.heads:
        return False
    for ahead, node in zip(way, way[1:]):
        if not first <= node < len(told) or ahead not in [literal >> 1 for literal in graph[2][node - first]]:
            return False
    return all([told[node] < lump.label for node in way])


def _are_ways(graph, k, told, node, value):
    """Whether a value is a tuple of k + 1 ways to the lump of a node that have no node in common."""
    if not isinstance(value, tuple) or len(value) != k + 1:
        return False
    lump = Lump(graph, told, node)
    if not all([_is_way(graph, lump, told, way) for way in value]):
        return False
    nodes = [other for way in value for other in way]
    return len({other: True for other in nodes}) == len(nodes)


def _fault_at(graph, k, told, triple):
    """The first fault of what a paper tells of the next and node, by the labels of all nodes ahead of it."""
    node = len(told)
    label, cut, ways = triple
    greater = max([told[literal >> 1] for literal in graph[2][node - first_and(graph)]])
    if not is_number(label) or label not in (greater, greater + 1):
        return ("label", node)
    if not is_cut(graph, node, cut) or len(cut) > k or max([told[other] for other in cut]) != label - 1:
        return ("cut", node)
    if label == greater or greater == 0:
        return None if ways is None else ("ways", node)
    return None if _are_ways(graph, k, told, node, ways) else ("ways", node)


def judge_labels(graph, k, value):
    """None if a value, which may be anything, is a right label paper, and otherwise the first fault."""
    if not isinstance(value, tuple) or len(value) != len(graph[2]):
        return ("form",)
    if not all(isinstance(triple, tuple) and len(triple) == 3 for triple in value):
        return ("form",)
    told = [0 for _ in range(first_and(graph))]
    for triple in value:
        fault = _fault_at(graph, k, told, triple)
        if fault is not None:
            return fault
        told.append(triple[0])
    return None
