"""The clauses of graphs: within a clock, unrolled, and those of which barrings show what holds of graphs."""

from bitloom.clashes import by_letters
from bitloom.graphs import first_and, many_nodes


def literal_of(literal):
    """The clause literal of a literal of a graph."""
    return -1 - (literal >> 1) if literal & 1 else 1 + (literal >> 1)


def _late(literal, letters):
    """A clause literal with a letter greater by some number."""
    return literal - letters if literal < 0 else literal + letters


def _clauses_told(rows):
    """The list of the clauses that rows of literals tell; those with both literals of a letter are left out."""
    found = []
    for row in rows:
        literals = {literal: True for literal in row}
        if not any([-literal in literals for literal in literals]):
            found.append(by_letters(literals))
    return found


def _and_rows(letter, one, other):
    """The rows of literals that tell an and node with a letter by its two clause literals."""
    return [(-letter, one), (-letter, other), (letter, -one, -other)]


def _unlike_rows(letter, one, other):
    """The rows of literals that tell that a letter is true just if two clause literals are unlike."""
    return [(-letter, one, other), (-letter, -one, -other), (letter, -one, other), (letter, one, -other)]


def clauses_of(graph):
    """The list of the clauses of a graph."""
    first = first_and(graph)
    rows = [(-1,)]
    for place, (one, other) in enumerate(graph[2]):
        rows.extend(_and_rows(first + place + 1, literal_of(one), literal_of(other)))
    return _clauses_told(rows)


def unrolled(graph, clocks):
    """The list of the clauses of a graph unrolled for so many clocks."""
    many = many_nodes(graph)
    plain = clauses_of(graph)
    found = []
    for clock in range(clocks):
        found.extend([tuple([_late(literal, clock * many) for literal in clause]) for clause in plain])
        if clock:
            for place, (_, taken) in enumerate(graph[1]):
                letter = clock * many + graph[0] + place + 2
                before = _late(literal_of(taken), (clock - 1) * many)
                found.extend(_clauses_told([(-letter, before), (letter, -before)]))
    return found


def starting(graph):
    """The list of the starting clauses of a graph."""
    return [(graph[0] + place + 2 if bit else -2 - graph[0] - place,) for place, (bit, _) in enumerate(graph[1])]


def parting(one, other):
    """The list of the parting clauses of two graphs with as many in bits, registers and outs."""
    shared = first_and(one)
    rows = []
    # The nodes that both share, and the and nodes of the first one, have the letters that they have in it.
    for place, (left, right) in enumerate(other[2]):
        letter = many_nodes(one) + place + 1
        rows.extend(_and_rows(letter, _in_other(left, shared, len(one[2])), _in_other(right, shared, len(one[2]))))
    pairs = list(zip(one[3], other[3])) + [(left[1], right[1]) for left, right in zip(one[1], other[1])]
    first = many_nodes(one) + len(other[2]) + 1
    parts = [(literal_of(left), _in_other(right, shared, len(one[2]))) for left, right in pairs]
    return clauses_of(one) + _clauses_told(rows) + _parted(parts, first)


def _in_other(literal, shared, many):
    """The clause literal of a literal of the second graph, whose and nodes stand behind many of the first one."""
    return literal_of(literal if literal >> 1 < shared else literal + 2 * many)


def _parted(pairs, first):
    """The list of the clauses that tell that some pair is unlike, with one more letter for each from first on."""
    rows = []
    for place, (left, right) in enumerate(pairs):
        rows.extend(_unlike_rows(first + place, left, right))
    rows.append(tuple([first + place for place in range(len(pairs))]))
    return _clauses_told(rows)


def _moved_up(literal, ins, regs, late_regs, late_ands):
    """A literal of a graph with so many in bits and registers, its registers and and nodes having greater numbers."""
    node = literal >> 1
    if node <= ins:
        return literal
    return literal + 2 * (late_regs if node <= ins + regs else late_ands)


def _moved_graph(graph, late_regs, late_ands):
    """The registers, and nodes and outs of a graph, as lists, its registers and and nodes having greater numbers."""
    ins, regs, ands, outs = graph
    many = len(regs)
    return (
        [(bit, _moved_up(literal, ins, many, late_regs, late_ands)) for bit, literal in regs],
        [tuple([_moved_up(literal, ins, many, late_regs, late_ands) for literal in pair]) for pair in ands],
        [_moved_up(literal, ins, many, late_regs, late_ands) for literal in outs],
    )


def joint(one, other):
    """The joint graph of two graphs with as many in bits and outs."""
    regs, ands, outs = _moved_graph(one, 0, len(other[1]))
    late_regs, late_ands, late_outs = _moved_graph(other, len(one[1]), len(one[1]) + len(one[2]))
    return one[0], tuple(regs + late_regs), tuple(ands + late_ands), tuple(outs + late_outs)


def first_clauses(graph, pairs):
    """The list of the clauses of the first barring for pairs of literals of a graph."""
    parts = [(literal_of(left), literal_of(right)) for left, right in pairs]
    return unrolled(graph, 1) + starting(graph) + _parted(parts, many_nodes(graph) + 1)


def step_clauses(graph, pairs):
    """The list of the clauses of the step barring for pairs of literals of a graph."""
    many = many_nodes(graph)
    parts = [(literal_of(left), literal_of(right)) for left, right in pairs]
    same = [row for left, right in parts for row in ((-left, right), (left, -right))]
    late = [(_late(left, many), _late(right, many)) for left, right in parts]
    return unrolled(graph, 2) + _clauses_told(same) + _parted(late, 2 * many + 1)


def first_holds(graph, out, k):
    """The list of the clauses of the first barring for an out and k clocks."""
    many = many_nodes(graph)
    literal = literal_of(graph[3][out])
    opposites = tuple([-_late(literal, clock * many) for clock in range(k)])
    return unrolled(graph, k) + starting(graph) + _clauses_told([opposites])


def _apart(graph, one, other, first):
    """The list of the clauses that tell that registers are unlike at two clocks, with more letters from first on."""
    many = many_nodes(graph)
    rows = []
    for place in range(len(graph[1])):
        letter = graph[0] + place + 2
        left, right = letter + one * many, letter + other * many
        rows.extend([(-first - place, left, right), (-first - place, -left, -right)])
    rows.append(tuple([first + place for place in range(len(graph[1]))]))
    return _clauses_told(rows)


def step_holds(graph, out, k):
    """The list of the clauses of the step barring for an out and k clocks."""
    many = many_nodes(graph)
    literal = literal_of(graph[3][out])
    found = unrolled(graph, k + 1)
    found.extend([(_late(literal, clock * many),) for clock in range(k)])
    found.append((-_late(literal, k * many),))
    first = (k + 1) * many + 1
    for one in range(k):
        for other in range(one + 1, k):
            found.extend(_apart(graph, one, other, first))
            first += len(graph[1])
    return found
