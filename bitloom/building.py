"""And nodes put together so that a graph has one name a thing."""


def plain_and(one, other):
    """The literal of the and of two literals, if it needs no and node, and otherwise None."""
    if one == 0 or other == 0 or one == other ^ 1:
        return 0
    if other == 1 or one == other:
        return one
    return other if one == 1 else None


class Maker:
    """The and nodes of a graph, as they are put behind one another; the first of them has the number first."""

    def __init__(self, first):
        self.first = first
        self.ands = []
        self.number_of = {}

    def both(self, one, other):
        """The literal of the and of two literals."""
        literal = plain_and(one, other)
        if literal is not None:
            return literal
        pair = (one, other) if one < other else (other, one)
        if pair not in self.number_of:
            self.number_of[pair] = self.first + len(self.ands)
            self.ands.append(pair)
        return 2 * self.number_of[pair]

    def either(self, one, other):
        """The literal that is 1 if one of two literals is."""
        return self.both(one ^ 1, other ^ 1) ^ 1

    def unlike(self, one, other):
        """The literal that is 1 if two literals are unlike."""
        return self.either(self.both(one, other ^ 1), self.both(one ^ 1, other))

    def chosen(self, chooser, one, other):
        """The literal that is the one if the chooser is 1, and otherwise the other one."""
        return self.either(self.both(chooser, one), self.both(chooser ^ 1, other))

    def every(self, literals):
        """The literal that is 1 if all literals of a list are."""
        level = list(literals)
        # Taken by twos, again and again, they become less deep than one behind the other.
        while len(level) > 1:
            pairs = [self.both(one, other) for one, other in zip(level[::2], level[1::2])]
            level = pairs + level[2 * len(pairs):]
        return level[0] if level else 1

    def odd(self, literals):
        """The literal that is 1 if an odd number of the literals of a list, not [], are."""
        level = list(literals)
        while len(level) > 1:
            pairs = [self.unlike(one, other) for one, other in zip(level[::2], level[1::2])]
            level = pairs + level[2 * len(pairs):]
        return level[0]


def remade(graph, maker, become):
    """The list of what all literals 2 * n of a graph become, where a maker tells the and of two literals.

    The list become tells it for all nodes that are no and nodes; it is changed and returned.
    """
    for one, other in graph[2]:
        become.append(maker.both(become[one >> 1] ^ one & 1, become[other >> 1] ^ other & 1))
    return become


def told_by(literal, become):
    """What a literal becomes."""
    return become[literal >> 1] ^ literal & 1


def graph_with(graph, ands, become):
    """A graph of other and nodes, whose registers and outs take what those of a given graph have become."""
    many_ins, regs, _, outs = graph
    return (
        many_ins,
        tuple([(bit, told_by(literal, become)) for bit, literal in regs]),
        tuple(ands),
        tuple([told_by(literal, become) for literal in outs]),
    )
