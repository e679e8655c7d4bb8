"""Graphs mapped to nets of tables."""

from bitloom.covers import lean_by
from bitloom.cuts import truth_by
from bitloom.graphs import first_and
from bitloom.labels import depth_by, labelled
from bitloom.nets import tight


def _truth_of(graph, literal, nodes):
    """The truth of a literal by the nodes that its pair in a cover has."""
    return truth_by(graph, literal, nodes) if literal >> 1 >= first_and(graph) else 1


def net_of(graph, k, cover):
    """The net of a cover."""
    many_ins, regs, _, outs = graph
    first = first_and(graph)
    # Nodes of graphs and of nets have the same numbers, up to the and nodes and tables.
    standing = {2 * node: node for node in range(first)}
    tables = []
    for literal, nodes in cover:
        told = tuple([standing[2 * node] for node in nodes])
        standing[literal] = first + len(tables)
        tables.append((told, _truth_of(graph, literal, nodes)))
    pairs = tuple([(bit, standing[literal]) for bit, literal in regs])
    return k, many_ins, pairs, tuple(tables), tuple([standing[literal] for literal in outs])


def mapped(graph, k):
    """A tight net that tells what a graph does, not deeper than the least deep covers."""
    labeller = labelled(graph, k)
    return tight(net_of(graph, k, lean_by(graph, k, labeller, depth_by(graph, labeller.labels))))
