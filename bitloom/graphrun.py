"""Graphs of single bits run clock by clock."""


def start_state(graph):
    """The tuple of the bits with which the registers begin."""
    return tuple([bit for bit, _ in graph[1]])


def _value_of_literal(values, literal):
    """The value of a literal by those of the nodes."""
    return values[literal // 2] ^ literal % 2


def node_values(graph, state, lot):
    """The list of the values of all nodes, node by node."""
    values = [0, *lot, *state]
    for one, other in graph[2]:
        values.append(_value_of_literal(values, one) & _value_of_literal(values, other))
    return values


def step(graph, state, lot):
    """The pair of the tuple of what the outs tell and of the state at the next clock."""
    _, regs, _, outs = graph
    values = node_values(graph, state, lot)
    told = tuple([_value_of_literal(values, literal) for literal in outs])
    return told, tuple([_value_of_literal(values, literal) for _, literal in regs])


def graph_outputs(graph, lots):
    """The list of the outputs for a list of lots."""
    found = []
    state = start_state(graph)
    for lot in lots:
        told, state = step(graph, state, lot)
        found.append(told)
    return found
