"""Graphs of single bits: whether a value is one, how deep it is, and which of its nodes are needed."""

from bitloom.errors import BadGraph
from bitloom.names import is_below, is_count


def _check_pair(pair, firsts, seconds, path):
    """Raise BadGraph with a path if a value is no pair of numbers below firsts and seconds."""
    if not isinstance(pair, tuple) or len(pair) != 2 or not is_below(pair[0], firsts) or not is_below(pair[1], seconds):
        raise BadGraph(path)


def check_graph(value):
    """Raise BadGraph with the path of the first wrong part, if a value is no graph."""
    if not isinstance(value, tuple) or len(value) != 4:
        raise BadGraph(())
    many_ins, regs, ands, outs = value
    if not is_count(many_ins):
        raise BadGraph((0,))
    if not isinstance(regs, tuple):
        raise BadGraph((1,))
    first = 1 + many_ins + len(regs)
    many = first + len(ands) if isinstance(ands, tuple) else first
    for k, pair in enumerate(regs):
        _check_pair(pair, 2, 2 * many, (1, k))
    if not isinstance(ands, tuple):
        raise BadGraph((2,))
    for k, pair in enumerate(ands):
        _check_pair(pair, 2 * (first + k), 2 * (first + k), (2, k))
    if not isinstance(outs, tuple):
        raise BadGraph((3,))
    for k, literal in enumerate(outs):
        if not is_below(literal, 2 * many):
            raise BadGraph((3, k))


def has_one_names(graph):
    """Whether a graph has one name a thing."""
    earlier = {}
    for pair in graph[2]:
        one, other = pair
        if one >= other or one // 2 == other // 2 or one < 2 or pair in earlier:
            return False
        earlier[pair] = True
    return True


def many_nodes(graph):
    """How many nodes a graph has."""
    return first_and(graph) + len(graph[2])


def first_and(graph):
    """The number that the first and node of a graph has, or would have."""
    return 1 + graph[0] + len(graph[1])


def depths(graph):
    """The list of the depths of all nodes, node by node."""
    found = [0 for _ in range(first_and(graph))]
    for one, other in graph[2]:
        found.append(1 + max(found[one // 2], found[other // 2]))
    return found


def depth(graph):
    """The depth of a graph."""
    _, regs, _, outs = graph
    deep = depths(graph)
    return max([deep[literal // 2] for literal in [*outs, *[taken for _, taken in regs]]], default=0)


def _literals_below(graph, node):
    """The list of the literals that a node of a graph has, or takes."""
    _, regs, ands, _ = graph
    first = first_and(graph)
    if node >= first:
        return list(ands[node - first])
    if node > graph[0]:
        return [regs[node - graph[0] - 1][1]]
    return []


def needed_nodes(graph):
    """The ascending list of the needed nodes."""
    needed = {}
    todo = [literal // 2 for literal in graph[3]]
    while todo:
        node = todo.pop()
        if node not in needed:
            needed[node] = True
            todo.extend([literal // 2 for literal in _literals_below(graph, node)])
    return sorted(needed)


def _renumbered(numbers, literal):
    """A literal of a node that has another number now."""
    return 2 * numbers[literal // 2] + literal % 2


def cut_graph(graph):
    """The graph that has the needed and nodes and the needed registers alone."""
    many_ins, regs, ands, outs = graph
    first = first_and(graph)
    kept = [node for node in needed_nodes(graph) if node > many_ins]
    numbers = {node: node for node in range(many_ins + 1)}
    for node in kept:
        numbers[node] = len(numbers)
    taken = [regs[node - many_ins - 1] for node in kept if node < first]
    pairs = [ands[node - first] for node in kept if node >= first]
    return (
        many_ins,
        tuple([(bit, _renumbered(numbers, literal)) for bit, literal in taken]),
        tuple([(_renumbered(numbers, one), _renumbered(numbers, other)) for one, other in pairs]),
        tuple([_renumbered(numbers, literal) for literal in outs]),
    )
