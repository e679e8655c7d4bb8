"""Truths of tables, and bits looked up in them."""


def folded(truth, many):
    """A truth by many bits as nested pairs, in which the first bit tells a member of the outermost one."""
    level = [truth >> place & 1 for place in range(1 << many)]
    # What is folded first stands innermost, so the bit that counts most goes ahead.
    for _ in range(many):
        half = len(level) // 2
        level = [(level[place], level[half + place]) for place in range(half)]
    return level[0]


def looked_up(tree, values, nodes):
    """The bit that a folded truth has for the values of some nodes."""
    for node in nodes:
        tree = tree[values[node]]
    return tree


def truth_over(truth, nodes, others):
    """The truth of a table by other nodes than its own, among which each of its own stands, perhaps for several."""
    if list(nodes) == list(others):
        return truth
    places = [others.index(node) for node in nodes]
    found = 0
    for row in range(1 << len(others)):
        place = sum([(row >> at & 1) << j for j, at in enumerate(places)])
        found |= (truth >> place & 1) << row
    return found


def truth_put(outer, inner, node, others):
    """The truth by other nodes of an outer table in which an inner one stands for its node; both are pairs."""
    mine = others + (node,)
    late = truth_over(outer[1], outer[0], mine)
    told = truth_over(inner[1], inner[0], others)
    many = 1 << len(others)
    full = (1 << many) - 1
    # The node stands last, so the truth with it being 1 lies above the one with it being 0.
    return (late >> many & told) | (late & full & (full ^ told))
