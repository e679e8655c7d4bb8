"""Table nets: whether a value is one, what they do, how deep they are, and whether they are tight."""

from bitloom.errors import BadNet
from bitloom.names import is_below, is_count, is_number, is_value
from bitloom.tables import folded, looked_up
from bitloom.tightening import Tightener, places_of

LEAST_K = 2
MOST_K = 6


def _first_table(net):
    """The number that the first table of a net has, or would have."""
    return 1 + net[1] + len(net[2])


def _are_nodes(value, k, many):
    """Whether a value is a tuple of at most k unlike numbers below many."""
    if not isinstance(value, tuple) or len(value) > k or not all(is_below(node, many) for node in value):
        return False
    return all([node not in value[:j] for j, node in enumerate(value)])


def _check_regs(regs):
    """Look at registers without the nodes that they take."""
    if not isinstance(regs, tuple):
        raise BadNet((2,))
    for r, pair in enumerate(regs):
        if not isinstance(pair, tuple) or len(pair) != 2:
            raise BadNet((2, r))
        if not is_below(pair[0], 2):
            raise BadNet((2, r, 0))


def _check_tables(tables, k, first):
    """Look at tables, the first of which has a number."""
    if not isinstance(tables, tuple):
        raise BadNet((3,))
    for t, pair in enumerate(tables):
        if not isinstance(pair, tuple) or len(pair) != 2:
            raise BadNet((3, t))
        if not _are_nodes(pair[0], k, first + t):
            raise BadNet((3, t, 0))
        if not is_value(pair[1], 1 << len(pair[0])):
            raise BadNet((3, t, 1))


def check_net(value):
    """Raise BadNet with the path of the first wrong part, if a value is no table net."""
    if not isinstance(value, tuple) or len(value) != 5:
        raise BadNet(())
    k, many_ins, regs, tables, outs = value
    if not is_number(k) or not LEAST_K <= k <= MOST_K:
        raise BadNet((0,))
    if not is_count(many_ins):
        raise BadNet((1,))
    _check_regs(regs)
    first = 1 + many_ins + len(regs)
    _check_tables(tables, k, first)
    many = first + len(tables)
    for r, pair in enumerate(regs):
        if not is_below(pair[1], many):
            raise BadNet((2, r, 1))
    if not isinstance(outs, tuple):
        raise BadNet((4,))
    for j, node in enumerate(outs):
        if not is_below(node, many):
            raise BadNet((4, j))


def run_net(net, lots):
    """The list of the tuples of outs, clock by clock, for a list of lots."""
    _, _, regs, tables, outs = net
    trees = [(nodes, folded(truth, len(nodes))) for nodes, truth in tables]
    state = [bit for bit, _ in regs]
    found = []
    for lot in lots:
        values = [0, *lot, *state]
        for nodes, tree in trees:
            values.append(looked_up(tree, values, nodes))
        found.append(tuple([values[node] for node in outs]))
        state = [values[node] for _, node in regs]
    return found


def _levels(net):
    """The list of the levels of all nodes."""
    levels = [0 for _ in range(_first_table(net))]
    for nodes, _ in net[3]:
        levels.append(1 + max([levels[node] for node in nodes], default=0))
    return levels


def level_in(net, node):
    """The level of a node."""
    return _levels(net)[node]


def net_depth(net):
    """The depth of a net."""
    levels = _levels(net)
    return max([levels[node] for node in [*net[4], *[taken for _, taken in net[2]]]], default=0)


def tight(net):
    """A tight net that tells the same, is not deeper, and has no more tables."""
    return Tightener(net).tight()


def is_tight(net):
    """Whether a net is tight."""
    k, _, _, tables, _ = net
    first = _first_table(net)
    places = places_of(net)
    # If some tables are not needed, the last one of them stands nowhere.
    if not all(places[node] > 0 for node in range(first, first + len(tables))):
        return False
    if len({pair: True for pair in tables}) < len(tables):
        return False
    for nodes, _ in tables:
        for node in nodes:
            if node >= first and places[node] == 1:
                together = {other: True for other in [*nodes, *tables[node - first][0]] if other != node}
                if len(together) <= k:
                    return False
    return True
