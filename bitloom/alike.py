"""Two graphs told alike, within a clock or for ever, or unlike; and what shows it judged."""

from bitloom.clauseforms import first_clauses, joint, parting, step_clauses
from bitloom.graphrun import graph_outputs, step
from bitloom.graphs import many_nodes
from bitloom.papers import are_bits, are_clauses, are_lots, are_pairs, are_states, begins_with
from bitloom.solving import judge_barring, solve
from bitloom.walks import TwinWatch, first_wrong_state, walked


def alike_step(one, other):
    """The pair ("alike", barring) for two graphs, or ("unlike", (bits, registers))."""
    word, told = solve(parting(one, other))
    if word == "never":
        return "alike", told
    true = {literal: True for literal in told}
    # The letters of the in bits and register bits stand behind that of node 0; some may be in no clause.
    bits = [1 if letter in true else 0 for letter in range(2, 2 + one[0] + len(one[1]))]
    return "unlike", (tuple(bits[:one[0]]), tuple(bits[one[0]:]))


def judge_step(one, other, value):
    """None if alike_step may return a value, which may be anything, and otherwise its first fault."""
    if begins_with(value, "alike", 2) and are_clauses(value[1]):
        fault = judge_barring(parting(one, other), value[1])
        return None if fault is None else ("barring", fault)
    if not begins_with(value, "unlike", 2) or not isinstance(value[1], tuple) or len(value[1]) != 2:
        return ("form",)
    bits, registers = value[1]
    if not are_bits(bits, one[0]) or not are_bits(registers, len(one[1])):
        return ("form",)
    return ("same",) if step(one, registers, bits) == step(other, registers, bits) else None


def alike_ever(one, other):
    """The pair ("alike", paper) for two graphs, or ("unlike", lots)."""
    states, lots = walked(joint(one, other), TwinWatch())
    return ("unlike", lots) if states is None else ("alike", ("states", states))


def _judge_pairs(graph, paper):
    """The first fault of a paper of pairs for a joint graph, or None."""
    _, pairs, first, late = paper
    half = len(graph[3]) // 2
    told = {pair: True for pair in pairs}
    for j in range(half):
        if (graph[3][j], graph[3][half + j]) not in told:
            return ("outs", j)
    fault = judge_barring(first_clauses(graph, pairs), first)
    if fault is not None:
        return ("first", fault)
    fault = judge_barring(step_clauses(graph, pairs), late)
    return None if fault is None else ("step", fault)


def judge_states(graph, watch, states):
    """The first fault of a paper of states, by what is wanted of the graph, or None."""
    if tuple([bit for bit, _ in graph[1]]) not in states:
        return ("start",)
    number = first_wrong_state(graph, watch, states)
    return None if number is None else ("state", number)


def _is_pairs_paper(graph, value):
    """Whether a value has the form of a paper of pairs."""
    if not begins_with(value, "pairs", 4) or not are_pairs(value[1], 2 * many_nodes(graph)):
        return False
    return are_clauses(value[2]) and are_clauses(value[3])


def judge_ever(one, other, value):
    """None if alike_ever may return a value, which may be anything, and otherwise its first fault."""
    graph = joint(one, other)
    if begins_with(value, "alike", 2):
        if _is_pairs_paper(graph, value[1]):
            return _judge_pairs(graph, value[1])
        if begins_with(value[1], "states", 2) and are_states(value[1][1], len(graph[1])):
            return judge_states(graph, TwinWatch(), value[1][1])
    elif begins_with(value, "unlike", 2) and are_lots(value[1], graph[0]):
        is_same = graph_outputs(one, value[1])[-1] == graph_outputs(other, value[1])[-1]
        return ("same",) if is_same else None
    return ("form",)
