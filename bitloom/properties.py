"""Outs of graphs that hold at every clock, or break; and what shows it judged."""

from bitloom.alike import judge_states
from bitloom.clauseforms import first_holds, step_holds
from bitloom.graphrun import graph_outputs
from bitloom.names import is_number
from bitloom.papers import are_clauses, are_lots, are_states, begins_with
from bitloom.solving import judge_barring
from bitloom.walks import OutWatch, walked

MOST_CLOCKS = 40


def holds(graph, out):
    """The pair ("holds", paper) for an out of a graph, or ("breaks", lots) with a shortest trace."""
    states, lots = walked(graph, OutWatch(out))
    return ("breaks", lots) if states is None else ("holds", ("states", states))


def _is_steps_paper(value):
    """Whether a value has the form of a paper of steps."""
    if not begins_with(value, "steps", 4) or not is_number(value[1]) or not 1 <= value[1] <= MOST_CLOCKS:
        return False
    return are_clauses(value[2]) and are_clauses(value[3])


def _judge_steps(graph, out, paper):
    """The first fault of a paper of steps for an out, or None."""
    _, k, first, late = paper
    fault = judge_barring(first_holds(graph, out, k), first)
    if fault is not None:
        return ("first", fault)
    fault = judge_barring(step_holds(graph, out, k), late)
    return None if fault is None else ("step", fault)


def judge_holds(graph, out, value):
    """None if a value, which may be anything, shows that an out holds or breaks, and otherwise its first fault."""
    if begins_with(value, "holds", 2):
        if _is_steps_paper(value[1]):
            return _judge_steps(graph, out, value[1])
        if begins_with(value[1], "states", 2) and are_states(value[1][1], len(graph[1])):
            return judge_states(graph, OutWatch(out), value[1][1])
    elif begins_with(value, "breaks", 2) and are_lots(value[1], graph[0]):
        return ("holds",) if graph_outputs(graph, value[1])[-1][out] == 1 else None
    return ("form",)
