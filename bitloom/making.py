"""Graphs made with one name a thing."""

from bitloom.building import Maker, graph_with, plain_and, remade
from bitloom.graphs import first_and


def and_of(graph, l, m):
    """The pair of a graph, with an and node put behind the others if one is missing, and the literal of an and."""
    many_ins, regs, ands, outs = graph
    literal = plain_and(l, m)
    if literal is not None:
        return graph, literal
    pair = (min(l, m), max(l, m))
    if pair in ands:
        return graph, 2 * (first_and(graph) + ands.index(pair))
    return (many_ins, regs, ands + (pair,), outs), 2 * (first_and(graph) + len(ands))


def made_anew(graph, exchanges):
    """The graph made anew with exchanges, a dict from nodes of register bits to literals."""
    first = first_and(graph)
    maker = Maker(first)
    become = [exchanges.get(node, 2 * node) for node in range(first)]
    remade(graph, maker, become)
    return graph_with(graph, maker.ands, become)
