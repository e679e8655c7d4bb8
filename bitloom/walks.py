"""The states to which the runs of a graph come, all lots being put in at once.

A mask is a number with a bit for each lot; the lot with the number n has the bit j of n for its in bit j.
"""


def lot_told(many, number):
    """The lot with a number, of so many in bits."""
    return tuple([number >> j & 1 for j in range(many)])


def first_lot(mask):
    """The number of the first lot of a mask other than 0."""
    return (mask & -mask).bit_length() - 1


def _in_mask(j, many):
    """The mask of all lots of many in bits whose in bit j is 1."""
    found = ((1 << (1 << j)) - 1) << (1 << j)
    width = 2 << j
    while width < 1 << many:
        found |= found << width
        width *= 2
    return found


class Walk:
    """A graph that is looked at for all lots at once."""

    def __init__(self, graph):
        self.given = graph
        self.full = (1 << (1 << graph[0])) - 1
        self.ins = [_in_mask(j, graph[0]) for j in range(graph[0])]
        self.begin = tuple([bit for bit, _ in graph[1]])

    def masks(self, state):
        """The list of the masks of all nodes for a state."""
        found = [0, *self.ins, *[self.full if bit else 0 for bit in state]]
        for one, other in self.given[2]:
            found.append(self.mask_of(found, one) & self.mask_of(found, other))
        return found

    def mask_of(self, masks, literal):
        """The mask of a literal by those of the nodes."""
        return masks[literal >> 1] ^ (self.full if literal & 1 else 0)

    def late_states(self, masks):
        """The list of the pairs of the masks of lots, and of the states to which these lead."""
        found = [(self.full, ())]
        for _, literal in self.given[1]:
            mask = self.mask_of(masks, literal)
            parts = [(lots & mask, (*state, 1)) for lots, state in found]
            parts.extend([(lots & (self.full ^ mask), (*state, 0)) for lots, state in found])
            found = [(lots, state) for lots, state in parts if lots]
        return found


class OutWatch:
    """Wants an out to be 1."""

    def __init__(self, out):
        self.out = out

    def wrong_lots(self, walk, masks):
        """The mask of the lots for which it is not as it is wanted."""
        return walk.full ^ walk.mask_of(masks, walk.given[3][self.out])


class TwinWatch:
    """Wants the first half of the outs to be as the second one."""

    def wrong_lots(self, walk, masks):
        """The mask of the lots for which it is not as it is wanted."""
        outs = walk.given[3]
        half = len(outs) // 2
        found = 0
        for one, other in zip(outs[:half], outs[half:]):
            found |= walk.mask_of(masks, one) ^ walk.mask_of(masks, other)
        return found


def walked(graph, watch):
    """The pair of the list of all states, and of the shortest list of lots at the last of which something is wrong.

    One of the two is None.
    """
    walk = Walk(graph)
    ahead = {walk.begin: None}
    states = [walk.begin]
    done = 0
    while done < len(states):
        state = states[done]
        done += 1
        masks = walk.masks(state)
        wrong = watch.wrong_lots(walk, masks)
        if wrong:
            lots = [lot_told(graph[0], first_lot(wrong))]
            while ahead[state] is not None:
                state, number = ahead[state]
                lots.append(lot_told(graph[0], number))
            return None, lots[::-1]
        for mask, late in walk.late_states(masks):
            if late not in ahead:
                ahead[late] = (state, first_lot(mask))
                states.append(late)
    return states, None


def first_wrong_state(graph, watch, states):
    """The number of the first state at which something is wrong, or that leads out of the states; None if none does."""
    walk = Walk(graph)
    known = {state: True for state in states}
    for number, state in enumerate(states):
        masks = walk.masks(state)
        if watch.wrong_lots(walk, masks) or not all([late in known for _, late in walk.late_states(masks)]):
            return number
    return None
