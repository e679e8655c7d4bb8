"""Cuts of and nodes, and truths by them."""

from bitloom.graphs import first_and
from bitloom.names import is_number


def _nodes_below(graph, node):
    """The two nodes of the literals of an and node."""
    one, other = graph[2][node - first_and(graph)]
    return one >> 1, other >> 1


def _all_below(graph, node):
    """A dict to True from all nodes below an and node."""
    first = first_and(graph)
    found = {}
    todo = [node]
    while todo:
        here = todo.pop()
        for other in _nodes_below(graph, here):
            if other not in found:
                found[other] = True
                if other >= first:
                    todo.append(other)
    return found


def _nodes_above(graph, node, cut):
    """The pair of the and nodes on ways from a node down to those of a cut, and of a dict of these, as they are met.

    It is None if a way comes to an in bit or a register bit and meets none of the cut.
    """
    first = first_and(graph)
    above = {node: True}
    met = {}
    todo = [node]
    while todo:
        here = todo.pop()
        for other in _nodes_below(graph, here):
            if other in cut:
                met[other] = True
            elif other < first:
                return None
            elif other not in above:
                above[other] = True
                todo.append(other)
    return sorted(above), met


def is_cut(graph, node, value):
    """Whether a value, which may be anything, is a cut of an and node."""
    if not isinstance(value, tuple) or not all(is_number(other) for other in value):
        return False
    if not all(value[j - 1] < value[j] for j in range(1, len(value))):
        return False
    told = _nodes_above(graph, node, {other: True for other in value})
    if told is None:
        return False
    if len(told[1]) == len(value):
        return True
    # What no way meets first may lie below another node of the cut.
    below = _all_below(graph, node)
    return all([other in below for other in value])


def _has_few(mask, k):
    """Whether a number has at most k bits that are 1."""
    for _ in range(k):
        mask &= mask - 1
    return mask == 0


def _has_part(mask, masks):
    """Whether a dict of numbers has one whose bits are some, but not all, of those of another number."""
    part = mask - 1 & mask
    while part:
        if part in masks:
            return True
        part = part - 1 & mask
    return False


def _joined(ones, others, k):
    """The list of the least joins of a number of one list and one of another one that have at most k bits."""
    found = {}
    for one in ones:
        joins = {one | other: True for other in others}
        found.update({mask: True for mask in joins if _has_few(mask, k)})
    return [mask for mask in found if not _has_part(mask, found)]


def cuts(graph, k, node):
    """The list of all least cuts of an and node with at most k nodes, ascending."""
    first = first_and(graph)
    below = sorted(_all_below(graph, node))
    # A set of nodes is told by a number, whose bits are theirs by their places.
    told = {other: [1 << place] for place, other in enumerate(below)}
    found = []
    for other in [*below, node]:
        if other >= first:
            one, two = _nodes_below(graph, other)
            found = _joined(told[one], told[two], k)
            if other != node:
                told[other].extend(found)
    return sorted([tuple([other for place, other in enumerate(below) if mask >> place & 1]) for mask in found])


def _pattern(place, many):
    """The truth of the input with a place, by many of them."""
    width = 1 << place
    found = (1 << width) - 1 << width
    for by in range(place + 1, many):
        found |= found << (1 << by)
    return found


def truth_by(graph, literal, nodes):
    """The truth of a literal of an and node by a cut."""
    first = first_and(graph)
    full = (1 << (1 << len(nodes))) - 1
    truths = {node: _pattern(place, len(nodes)) for place, node in enumerate(nodes)}
    for node in _nodes_above(graph, literal >> 1, nodes)[0]:
        found = full
        for told in graph[2][node - first]:
            found &= truths[told >> 1] ^ (full if told & 1 else 0)
        truths[node] = found
    return truths[literal >> 1] ^ (full if literal & 1 else 0)
