"""Periods of graphs, lags that keep them, and papers that there are none."""

from bitloom.bounding import Earliest, Latest
from bitloom.graphs import depths, first_and
from bitloom.names import is_below, is_number
from bitloom.ways import Lags, Ways, told_way


def period(graph):
    """The period of a graph."""
    deep = depths(graph)
    return max([deep[node] for node in Ways(graph).needed], default=0)


def least_period(graph):
    """The least period of a graph."""
    ways = Ways(graph)
    high = period(graph)
    low = 1 if high else 0
    while low < high:
        middle = (low + high) // 2
        if Latest(ways, middle).paper is None:
            high = middle
        else:
            low = middle + 1
    return low


def _lags_by(graph, labels, c):
    """The tuple of the lags of all and nodes, by labels of the needed ones."""
    first = first_and(graph)
    found = []
    for node in range(first, first + len(graph[2])):
        found.append(-(-labels[node] // c) - 1 if node in labels else 0)
    return tuple(found)


def lags_for(graph, c):
    """Right lags with a period of at most c, or None."""
    latest = Latest(Ways(graph), c)
    return _lags_by(graph, latest.labels, c) if latest.paper is None else None


def paper_against(graph, c):
    """A paper against c, or None."""
    return Latest(Ways(graph), c).paper


def judge_lags(graph, c, value):
    """None if a value, which may be anything, is right lags with a period of at most c; otherwise the first fault."""
    if not isinstance(value, tuple) or len(value) != len(graph[2]) or not all(is_number(lag) for lag in value):
        return ("form",)
    ways = Ways(graph)
    lags = Lags(ways, value)
    for node in ways.needed:
        for side, edge in enumerate(ways.edges[node]):
            if lags.left(edge, lags.lag(node)) < 0:
                return ("less", node, side)
    for number, edge in enumerate(ways.out_edges):
        if lags.left(edge, 0) < 0:
            return ("less out", number)
    lengths = lags.stretches()
    for node in ways.needed:
        if lengths[node] > c:
            return ("long", node)
    return None


def judge_paper(graph, c, value):
    """Whether a value, which may be anything, is a paper against c."""
    if not isinstance(value, tuple) or len(value) < 2 or value[0] not in ("way", "ring"):
        return False
    ways = Ways(graph)
    told = told_way(ways, value[1])
    if told is None:
        return False
    source, node, many, registers = told
    if value[0] == "ring":
        return len(value) == 2 and source == node and many > c * registers
    if len(value) != 3 or not is_below(value[2], len(graph[3])) or not ways.is_root(source):
        return False
    last, behind = ways.out_edges[value[2]]
    return last == node and many > c * (registers + behind + 1)


def least_shift(graph, c):
    """The least shift for c, or None if there are no right lags with a period of at most c."""
    ways = Ways(graph)
    if Latest(ways, c).paper is not None:
        return None
    greatest = max(list(Earliest(ways, c).labels.values()), default=0)
    return max(0, -(-greatest // c) - 1) if greatest > 0 else 0


def early_lags(graph, c):
    """Right lags with a period of at most c whose shift is the least one for c, or None."""
    ways = Ways(graph)
    if Latest(ways, c).paper is not None:
        return None
    return _lags_by(graph, Earliest(ways, c).with_others(), c)


def shift_paper(graph, c, l):
    """A shift paper for c and l, or None if there is none; c is such that there are right lags."""
    ways = Ways(graph)
    earliest = Earliest(ways, c)
    for node in ways.needed:
        if node in earliest.labels and earliest.labels[node] > c * l:
            return earliest.steps_to(node)
    return None


def judge_shift(graph, c, l, value):
    """Whether a value, which may be anything, is a shift paper for c and l."""
    ways = Ways(graph)
    told = told_way(ways, value)
    if told is None:
        return False
    source, _, many, registers = told
    return ways.is_root(source) and many > c * (registers + l)
