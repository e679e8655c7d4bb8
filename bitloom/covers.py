"""Covers of graphs by cuts."""

from bitloom.cuts import is_cut
from bitloom.graphs import first_and, many_nodes
from bitloom.labels import labelled
from bitloom.leaning import Leaner
from bitloom.names import is_below, is_number
from bitloom.roots import root_literals, wants_table


def _leaf_of(graph, literal):
    """The tuple of the nodes of the table of a turned literal of a node that is no and node."""
    return (literal >> 1,) if literal > 1 else ()


def _covered(graph, cut_of):
    """The cover of a graph by the cuts that a dict tells of and nodes."""
    first = first_and(graph)
    found = {}
    todo = [literal for literal in root_literals(graph) if wants_table(graph, literal)]
    while todo:
        literal = todo.pop()
        if literal not in found:
            found[literal] = cut_of[literal >> 1] if literal >> 1 >= first else _leaf_of(graph, literal)
            todo.extend([2 * node for node in found[literal] if node >= first])
    return tuple([(literal, found[literal]) for literal in sorted(found)])


def cover(graph, k):
    """A cover with the least depth."""
    return _covered(graph, labelled(graph, k).cuts)


def lean_by(graph, k, labeller, depth):
    """A cover of a depth of at most depth, with not more pairs than cover tells, by what a labeller has found."""
    plain = _covered(graph, labeller.cuts)
    lean = _covered(graph, Leaner(graph, k, labeller).cuts_within(depth))
    return lean if len(lean) < len(plain) else plain


def lean_cover(graph, k, depth):
    """A cover of a depth of at most depth, with not more pairs than cover tells."""
    return lean_by(graph, k, labelled(graph, k), depth)


def cover_depth(graph, value):
    """The depth of a cover."""
    first = first_and(graph)
    levels = {}
    for literal, nodes in value:
        levels[literal] = 1 + max([levels[2 * node] for node in nodes if node >= first], default=0)
    return max(list(levels.values()), default=0)


def _is_formed(value):
    """Whether a value is a tuple of tuples with two members, an integer and a tuple of integers each."""
    if not isinstance(value, tuple):
        return False
    for pair in value:
        if not isinstance(pair, tuple) or len(pair) != 2 or not is_number(pair[0]) or not isinstance(pair[1], tuple):
            return False
        if not all(is_number(node) for node in pair[1]):
            return False
    return True


def _are_nodes_of(graph, k, literal, nodes):
    """Whether a pair of a cover with a literal may have some nodes."""
    if literal >> 1 < first_and(graph):
        return nodes == _leaf_of(graph, literal)
    return len(nodes) <= k and is_cut(graph, literal >> 1, nodes)


def judge_cover(graph, k, value):
    """None if a value, which may be anything, is a cover, and otherwise the first fault."""
    if not _is_formed(value):
        return ("form",)
    first = first_and(graph)
    ahead = -1
    for j, (literal, _) in enumerate(value):
        if literal <= ahead or not is_below(literal, 2 * many_nodes(graph)) or not wants_table(graph, literal):
            return ("literal", j)
        ahead = literal
    for j, (literal, nodes) in enumerate(value):
        if not _are_nodes_of(graph, k, literal, nodes):
            return ("nodes", j)
    wanted = {literal: True for literal in root_literals(graph) if wants_table(graph, literal)}
    for _, nodes in value:
        for node in nodes:
            if node >= first:
                wanted[2 * node] = True
    told = {literal: True for literal, _ in value}
    for literal in sorted(wanted):
        if literal not in told:
            return ("lacks", literal)
    for j, (literal, _) in enumerate(value):
        if literal not in wanted:
            return ("waste", j)
    return None
