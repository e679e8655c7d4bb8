"""Where wires come from: sources followed from wire to wire up to a cell or a pad."""

from bitloom.fabric import is_border, neighbour, wire_in
from bitloom.names import is_below

CELL = ("cell",)


def is_source_at(fabric, x, y, value):
    """Whether a value, which may be anything, is a source at a tile."""
    if not isinstance(value, tuple) or not value or not isinstance(value[0], str):
        return False
    if value[0] == "cell":
        return len(value) == 1
    if value[0] == "pad":
        return len(value) == 2 and is_below(value[1], fabric[4]) and is_border(fabric, x, y)
    if value[0] != "wire" or len(value) != 3 or not is_below(value[1], 4) or not is_below(value[2], fabric[2]):
        return False
    return neighbour(fabric, x, y, value[1]) is not None


def may_take(wire, source):
    """Whether a wire may take a source at the tile that it leaves."""
    return source[0] != "wire" or source[2] == wire[3]


class Wiring:
    """Wires with the sources that they take, a dict; and the ends that were found so far."""

    def __init__(self, fabric, sources):
        self.fabric_told = fabric
        self.sources = sources
        self.ends = {}

    def end(self, x, y, source):
        """The pair of where a source at a tile comes from, and through how many wires; None if from nowhere.

        Where it comes from is (x, y, source), the source being a cell or a pad.
        """
        passed = {}
        found = None
        while source is not None:
            if source[0] != "wire":
                found = ((x, y, source), 0)
                break
            wire = wire_in(self.fabric_told, x, y, source[1], source[2])
            if wire in self.ends:
                found = self.ends[wire]
                break
            # Wires that take one another in a ring come from nowhere.
            if wire in passed or wire not in self.sources:
                break
            passed[wire] = True
            x, y, source = wire[0], wire[1], self.sources[wire]
        for wire in list(passed)[::-1]:
            found = None if found is None else (found[0], found[1] + 1)
            self.ends[wire] = found
        return found


class LaidWires:
    """What is laid of a cell net, its wires being followed to the signals that they carry."""

    def __init__(self, fabric, cells, laid):
        tiles, ins, self.out_places, wires, self.inputs = laid
        self.many = cells[1]
        self.tiles = tiles
        self.wiring = Wiring(fabric, {wire: source for wire, source in wires})
        self.heads = {(x, y, CELL): self.many + c for c, (x, y) in enumerate(tiles)}
        for signal, (x, y, pad) in enumerate(ins):
            self.heads[(x, y, ("pad", pad))] = signal

    def reached(self, x, y, source):
        """The pair of the signal that a source at a tile carries, and through how many wires, or None."""
        end = self.wiring.end(x, y, source)
        return (self.heads[end[0]], end[1]) if end is not None and end[0] in self.heads else None

    def carries(self, x, y, source):
        """The signal that a source at a tile carries, or None."""
        told = self.reached(x, y, source)
        return None if told is None else told[0]

    def reached_by_inputs(self, c):
        """The list of what reached tells for the sources of the inputs of cell c."""
        x, y = self.tiles[c]
        return [self.reached(x, y, source) for source in self.inputs[c]]

    def reached_by_outs(self):
        """The list of what reached tells for the sources of the out pads."""
        return [self.reached(x, y, source) for x, y, _, source in self.out_places]
