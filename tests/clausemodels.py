"""Slow and plain models of what the document tells of clauses and of the papers of part 9."""

import itertools

from graphmodels import all_lots, clock, starts

Q = [(1, 2), (-1, 2), (1, -2), (-1, -2)]
# The example of S9.9, and the same with 1 as start.
HOLDING_G = (1, ((0, 6),), ((2, 4),), (7, 5))
BREAKING_G = (1, ((1, 6),), ((2, 4),), (7, 5))


def is_true_clause(value):
    """Whether a value of any kind is a clause."""
    if type(value) is not tuple or not all(type(part) is int and 1 <= abs(part) <= 10**6 for part in value):
        return False
    letters = [abs(part) for part in value]
    return letters == sorted(set(letters))


def model_spread(clauses, literals):
    """All literals that are true at the end, ascending by letters, or None; clauses are gone through again and again."""
    true = set(literals)
    while True:
        late = set()
        if any(-literal in true for literal in true):
            return None
        for clause in clauses:
            if not any(literal in true for literal in clause):
                left = [literal for literal in clause if -literal not in true]
                if not left:
                    return None
                if len(left) == 1:
                    late.add(left[0])
        if not late:
            return tuple(sorted(true, key=abs))
        true |= late


def model_barring(clauses, value):
    """The first fault of what should be a barring, or None."""
    if type(value) not in (list, tuple) or not value or not all(map(is_true_clause, value)):
        return ("form",)
    ahead = list(clauses)
    for n, clause in enumerate(value):
        if model_spread(ahead, [-literal for literal in clause]) is not None:
            return "step", n
        ahead.append(clause)
    return None if value[-1] == () else ("end",)


def can_be(clauses):
    """Whether truths keep all clauses, trying all."""
    letters = sorted({abs(literal) for clause in clauses for literal in clause})
    for truths in itertools.product((1, -1), repeat=len(letters)):
        true = {letter * truth for letter, truth in zip(letters, truths)}
        if all(true & set(clause) for clause in clauses):
            return True
    return False


def random_clauses(dice, letters, many, longest):
    """Clauses by chance."""
    found = []
    for _ in range(many):
        picked = sorted(dice.sample(range(1, letters + 1), min(letters, dice.randint(1, longest))))
        found.append(tuple(letter * dice.choice((1, -1)) for letter in picked))
    return found


def pigeons(many):
    """Clauses that tell that many birds sit in one hole less, each hole for one."""
    holes = many - 1
    found = [tuple(bird * holes + hole + 1 for hole in range(holes)) for bird in range(many)]
    for hole in range(holes):
        for one, other in itertools.combinations(range(many), 2):
            found.append((-(one * holes + hole + 1), -(other * holes + hole + 1)))
    return found


class Told:
    """Clauses put behind one another as S9.4 says."""

    def __init__(self):
        self.clauses = []

    def put(self, *literals):
        kept = sorted(set(literals), key=abs)
        if not any(-literal in kept for literal in kept):
            self.clauses.append(tuple(kept))


def plain_nodes(graph):
    """How many nodes a graph has."""
    return 1 + graph[0] + len(graph[1]) + len(graph[2])


def told_literal(literal, letter):
    """The clause literal of a literal of a graph, letter telling that of a node."""
    return letter(literal // 2) * (-1 if literal % 2 else 1)


def put_ands(told, graph, letter):
    """The three clauses of each and node."""
    for k, (one, other) in enumerate(graph[2]):
        y = letter(1 + graph[0] + len(graph[1]) + k)
        a, b = told_literal(one, letter), told_literal(other, letter)
        told.put(-y, a)
        told.put(-y, b)
        told.put(y, -a, -b)


def at_clock(graph, t):
    """Letters at a clock."""
    return lambda node: t * plain_nodes(graph) + node + 1


def put_unrolled(told, graph, clocks):
    """A graph unrolled."""
    for t in range(clocks):
        told.put(-at_clock(graph, t)(0))
        put_ands(told, graph, at_clock(graph, t))
        for r, (_, literal) in enumerate(graph[1]) if t else ():
            z, x = at_clock(graph, t)(1 + graph[0] + r), told_literal(literal, at_clock(graph, t - 1))
            told.put(-z, x)
            told.put(z, -x)


def put_starting(told, graph):
    """The starting clauses."""
    for r, (start, _) in enumerate(graph[1]):
        letter = at_clock(graph, 0)(1 + graph[0] + r)
        told.put(letter if start else -letter)


def put_parted(told, pairs, first):
    """Parted pairs, with letters from first on."""
    for j, (a, b) in enumerate(pairs):
        d = first + j
        told.put(-d, a, b)
        told.put(-d, -a, -b)
        told.put(d, -a, b)
        told.put(d, a, -b)
    told.put(*range(first, first + len(pairs)))


def model_parting(one, other):
    """The parting clauses by S9.6."""
    told = Told()
    shared = 1 + one[0] + len(one[1])

    def of_one(node):
        return node + 1

    def of_other(node):
        return node + 1 if node < shared else node + 1 + len(one[2])

    told.put(-1)
    put_ands(told, one, of_one)
    put_ands(told, other, of_other)
    pairs = list(zip(one[3], other[3])) + [(left, right) for (_, left), (_, right) in zip(one[1], other[1])]
    parts = [(told_literal(left, of_one), told_literal(right, of_other)) for left, right in pairs]
    put_parted(told, parts, shared + len(one[2]) + len(other[2]) + 1)
    return told.clauses


def model_joint(one, other):
    """The joint graph by S9.7: all nodes of both by new numbers."""
    ins = one[0]
    numbers = [{node: node for node in range(ins + 1)} for _ in range(2)]
    number = ins + 1
    for part in (1, 2):
        for which, graph in enumerate((one, other)):
            first = 1 + ins + (len(graph[1]) if part == 2 else 0)
            for k in range(len(graph[part])):
                numbers[which][first + k] = number
                number += 1

    def told(which, literal):
        return 2 * numbers[which][literal // 2] + literal % 2

    both = list(enumerate((one, other)))
    return (
        ins, tuple((bit, told(which, taken)) for which, graph in both for bit, taken in graph[1]),
        tuple((told(which, a), told(which, b)) for which, graph in both for a, b in graph[2]),
        tuple(told(which, literal) for which, graph in both for literal in graph[3]),
    )


def model_first(graph, pairs):
    """The clauses of the first barring of pairs."""
    told = Told()
    put_unrolled(told, graph, 1)
    put_starting(told, graph)
    parts = [[told_literal(literal, at_clock(graph, 0)) for literal in pair] for pair in pairs]
    put_parted(told, parts, plain_nodes(graph) + 1)
    return told.clauses


def model_step(graph, pairs):
    """The clauses of the step barring of pairs."""
    told = Told()
    put_unrolled(told, graph, 2)
    for pair in pairs:
        a, b = [told_literal(literal, at_clock(graph, 0)) for literal in pair]
        told.put(-a, b)
        told.put(a, -b)
    parts = [[told_literal(literal, at_clock(graph, 1)) for literal in pair] for pair in pairs]
    put_parted(told, parts, 2 * plain_nodes(graph) + 1)
    return told.clauses


def model_first_holds(graph, out, k):
    """The clauses of the first barring of an out."""
    told = Told()
    put_unrolled(told, graph, k)
    put_starting(told, graph)
    told.put(*[-told_literal(graph[3][out], at_clock(graph, t)) for t in range(k)])
    return told.clauses


def model_step_holds(graph, out, k):
    """The clauses of the step barring of an out."""
    told = Told()
    put_unrolled(told, graph, k + 1)
    for t in range(k):
        told.put(told_literal(graph[3][out], at_clock(graph, t)))
    told.put(-told_literal(graph[3][out], at_clock(graph, k)))
    d = (k + 1) * plain_nodes(graph)
    for one in range(k):
        for other in range(one + 1, k):
            letters = []
            for r in range(len(graph[1])):
                d += 1
                letters.append(d)
                z, w = at_clock(graph, one)(1 + graph[0] + r), at_clock(graph, other)(1 + graph[0] + r)
                told.put(-d, z, w)
                told.put(-d, -z, -w)
            told.put(*letters)
    return told.clauses


def shortest_trace(graph, is_wrong):
    """How many lots the shortest list has at the last of which the outs are wrong, None if there is none; level by level."""
    level, seen, many = {starts(graph)}, set(), 0
    while level:
        many += 1
        seen |= level
        late = set()
        for state in level:
            for lot in all_lots(graph[0]):
                outs, after = clock(graph, state, lot)
                if is_wrong(outs):
                    return many
                late.add(after)
        level = late - seen
    return None
