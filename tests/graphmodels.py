"""Slow and plain models of what the document tells of graphs, of registers moved, and of tables on fabrics."""

import itertools

# Nodes 1 and 2 are in bits, 3 is a register; the example of part 5.
MOVING_G = (2, ((1, 12),), ((2, 4), (4, 9), (2, 10)), (6,))
# The examples of part 6 and part 7.
TABLES_G = (4, (), ((2, 4), (6, 9), (10, 13)), (14, 15, 3))
FABRIC_F = (2, 1, 1, 2, 1)
CELLS_T = (2, 1, (((0, 1), 6, 1, 0),), (1,))


def literal_value(values, literal):
    """The value of a literal by those of the nodes."""
    return values[literal // 2] if literal % 2 == 0 else 1 - values[literal // 2]


def all_values(graph, state, lot):
    """The values of all nodes."""
    values = [0, *lot, *state]
    for one, other in graph[2]:
        values.append(min(literal_value(values, one), literal_value(values, other)))
    return values


def clock(graph, state, lot):
    """What the outs tell, and the next state."""
    values = all_values(graph, state, lot)
    outs = tuple(literal_value(values, literal) for literal in graph[3])
    return outs, tuple(literal_value(values, literal) for _, literal in graph[1])


def starts(graph):
    """The state at first."""
    return tuple(start for start, _ in graph[1])


def runs(graph, lots):
    """The outputs for some lots."""
    found, state = [], starts(graph)
    for lot in lots:
        outs, state = clock(graph, state, lot)
        found.append(outs)
    return found


def all_lots(many):
    """All lots of so many bits."""
    return list(itertools.product((0, 1), repeat=many))


def are_alike(one, other):
    """Whether two small graphs have the same outputs for all lists of lots: all pairs of states are come to."""
    if one[0] != other[0] or len(one[3]) != len(other[3]):
        return False
    todo, seen = [(starts(one), starts(other))], set()
    while todo:
        pair = todo.pop()
        if pair in seen:
            continue
        seen.add(pair)
        for lot in all_lots(one[0]):
            outs, late = clock(one, pair[0], lot)
            outs2, late2 = clock(other, pair[1], lot)
            if outs != outs2:
                return False
            todo.append((late, late2))
    return True


def first_node(graph):
    """The number of the first and node."""
    return 1 + graph[0] + len(graph[1])


def below(graph, node):
    """The set of all nodes below a node."""
    first = first_node(graph)
    found, todo = set(), [node]
    while todo:
        here = todo.pop()
        for literal in graph[2][here - first] if here >= first else ():
            if literal // 2 not in found:
                found.add(literal // 2)
                todo.append(literal // 2)
    return found


def model_is_cut(graph, node, cut):
    """Whether a set of nodes below a node meets each way down."""
    first = first_node(graph)

    def gets_past(here):
        if here in cut:
            return False
        return here < first or any(gets_past(literal // 2) for literal in graph[2][here - first])

    return set(cut) <= below(graph, node) and not any(
        gets_past(literal // 2) for literal in graph[2][node - first]
    )


def model_cuts(graph, k, node):
    """All least cuts with at most k nodes, trying all sets."""
    found = []
    for many in range(1, k + 1):
        for cut in itertools.combinations(sorted(below(graph, node)), many):
            if not any(set(other) <= set(cut) for other in found) and model_is_cut(graph, node, cut):
                found.append(cut)
    return sorted(found)


def model_labels(graph, k):
    """The labels of all nodes, by all least cuts."""
    found = [0] * first_node(graph)
    for node in range(first_node(graph), first_node(graph) + len(graph[2])):
        found.append(1 + min(max(found[other] for other in cut) for cut in model_cuts(graph, k, node)))
    return found


def model_truth(graph, literal, cut):
    """The truth of a literal by a cut, row by row."""
    first = first_node(graph)
    found = 0
    for row in range(2 ** len(cut)):
        values = {node: row >> j & 1 for j, node in enumerate(cut)}

        def value(node):
            if node not in values:
                values[node] = min(
                    value(part // 2) if part % 2 == 0 else 1 - value(part // 2) for part in graph[2][node - first]
                )
            return values[node]

        bit = value(literal // 2)
        found += 2**row * (1 - bit if literal % 2 else bit)
    return found


def model_source(graph, literal):
    """The source of a literal, whether it turns, and its chain, as S5.1 tells them."""
    many, first = graph[0], first_node(graph)
    met, literals = [], [literal]
    node = literal // 2
    while many < node < first and node not in met:
        met.append(node)
        literals.append(graph[1][node - many - 1][1])
        node = literals[-1] // 2
    chain = met[:met.index(node)] if node in met else met
    return node, sum(part % 2 for part in literals[:len(chain) + 1]) % 2, tuple(chain)


def model_needed(graph):
    """The needed and nodes, by sources."""
    first = first_node(graph)
    found, todo = set(), list(graph[3])
    while todo:
        node = model_source(graph, todo.pop())[0]
        if node >= first and node not in found:
            found.add(node)
            todo.extend(graph[2][node - first])
    return sorted(found)


def model_edges(graph):
    """All edges (source, node, side, registers); those to outs have None and the number of the out."""
    first = first_node(graph)
    found = []
    for node in model_needed(graph):
        for side, literal in enumerate(graph[2][node - first]):
            source, _, chain = model_source(graph, literal)
            found.append((source, node, side, len(chain)))
    for number, literal in enumerate(graph[3]):
        source, _, chain = model_source(graph, literal)
        found.append((source, None, number, len(chain)))
    return found


def model_period(graph, lags):
    """The period of right lags, None if they are not right."""
    first = first_node(graph)
    lag = {None: 0, **{node: lags[node - first] for node in model_needed(graph)}}
    straight = {node: [] for node in model_needed(graph)}
    for source, node, _, many in model_edges(graph):
        left = many + lag[node] - lag.get(source, 0)
        if left < 0:
            return None
        if left == 0 and node is not None and source in straight:
            straight[node].append(source)

    def length(node):
        return 1 + max([length(other) for other in straight[node]], default=0)

    return max([length(node) for node in straight], default=0)


def model_lets(graph, c):
    """Whether no slope is above c: labels are lowered as often as there are edges, and once more."""
    needed = set(model_needed(graph))
    if c == 0:
        return not needed
    edges = model_edges(graph)
    labels = {}
    for _ in range(len(needed) + 2):
        before = dict(labels)
        for source, node, _, many in edges:
            bound = c * (many + 1) if node is None else labels.get(node, 10**9) - 1 + c * many
            if source in needed:
                labels[source] = min(bound, labels.get(source, 10**9))
            elif node is not None and node in labels and bound < 0:
                return False
        if labels == before:
            return True
    return False


def model_shift(graph, c):
    """The least shift for c, by the greatest n - c * w of all ways from roots, for a c that is let."""
    needed = set(model_needed(graph))
    labels = {}
    for _ in range(len(needed) + 1):
        for source, node, _, many in model_edges(graph):
            ahead = labels.get(source) if source in needed else 0
            if node is not None and ahead is not None:
                labels[node] = max(ahead + 1 - c * many, labels.get(node, -(10**9)))
    found = 0
    while any(label > c * (found + 1) for label in labels.values()):
        found += 1
    return found


def net_runs(net, lots):
    """What the outs of a table net tell."""
    _, _, regs, tables, outs = net
    found, state = [], [start for start, _ in regs]
    for lot in lots:
        values = [0, *lot, *state]
        for nodes, truth in tables:
            values.append(truth // 2 ** sum(values[node] * 2**j for j, node in enumerate(nodes)) % 2)
        found.append(tuple(values[node] for node in outs))
        state = [values[node] for _, node in regs]
    return found


def cell_runs(cells, lots):
    """What the outs of a cell net tell, each output being asked for when it is needed."""
    _, many, told, outs = cells
    found, state = [], [cell[3] for cell in told]
    for lot in lots:
        def table(c):
            inputs, truth = told[c][:2]
            return truth // 2 ** sum(value(signal) * 2**j for j, signal in enumerate(inputs)) % 2

        def value(signal):
            if signal < many:
                return lot[signal]
            return state[signal - many] if told[signal - many][2] else table(signal - many)

        found.append(tuple(value(signal) for signal in outs))
        state = [table(c) for c in range(len(told))]
    return found


def signal_spots(cells, placing, signal):
    """The tile where a signal begins, and those of its wants."""
    _, many, told, taken = cells
    tiles, ins, outs = placing
    begin = ins[signal][:2] if signal < many else tiles[signal - many]
    wants = [tiles[c] for c, cell in enumerate(told) if signal in cell[0]]
    return begin, wants + [outs[j][:2] for j, other in enumerate(taken) if other == signal]


def model_wanted(cells):
    """The wanted signals."""
    return sorted({signal for cell in cells[2] for signal in cell[0]} | set(cells[3]))


def model_length(cells, placing):
    """The length of a placing."""
    found = 0
    for signal in model_wanted(cells):
        begin, wants = signal_spots(cells, placing, signal)
        for axis in (0, 1):
            spots = [spot[axis] for spot in [begin, *wants]]
            found += max(spots) - min(spots)
    return found


def model_settled(fabric, cells, placing):
    """Whether no change of a cell's tile makes a placing shorter."""
    tiles, ins, outs = placing
    least = model_length(cells, placing)
    for c, tile in itertools.product(range(len(tiles)), itertools.product(range(fabric[0]), range(fabric[1]))):
        late = list(tiles)
        if tile in late:
            late[late.index(tile)] = late[c]
        late[c] = tile
        if model_length(cells, (tuple(late), ins, outs)) < least:
            return False
    return True
