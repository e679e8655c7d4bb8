"""The roots of graphs, and which tables they want."""

from bitloom.graphs import first_and


def root_literals(graph):
    """The list of the literals that the registers of a graph take and its outs tell."""
    return [*[literal for _, literal in graph[1]], *graph[3]]


def wants_table(graph, literal):
    """Whether a root with a literal wants a table; 0, in bits and register bits that are not negated want none."""
    return literal & 1 == 1 or literal >> 1 >= first_and(graph)
