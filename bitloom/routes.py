"""The trees of wires by which the signals of a placing are brought to where they are wanted."""

from bitloom.wiring import CELL

BACK = 2


def _ends_of(cells, placing):
    """A dict from all wanted signals, ascending, to the lists of the tiles where they are wanted."""
    tiles, _, out_places = placing
    found = {}
    for c, cell in enumerate(cells[2]):
        for signal in cell[0]:
            found.setdefault(signal, []).append(tiles[c])
    for signal, place in zip(cells[3], out_places):
        found.setdefault(signal, []).append(place[:2])
    return {signal: found[signal] for signal in sorted(found)}


class Routes:
    """Trees of wires, each on one track: a dict from pairs of a signal and a track to dicts.

    Such a dict leads from each tile to which the signal is brought on the track to the wire that comes in there.
    """

    def __init__(self, cells, placing):
        self.told = cells
        self.placing = placing
        tiles, ins, _ = placing
        self.begins = {signal: (x, y) for signal, (x, y, _) in enumerate(ins)}
        self.heads = {signal: ("pad", pad) for signal, (_, _, pad) in enumerate(ins)}
        for c, tile in enumerate(tiles):
            self.begins[cells[1] + c] = tile
            self.heads[cells[1] + c] = CELL
        self.wants = {}
        for signal, ends in _ends_of(cells, placing).items():
            # What is wanted at the tile where it begins needs no wire.
            self.wants[signal] = list({tile: True for tile in ends if tile != self.begins[signal]})
        self.trees = {}
        self.brought = {}

    def put(self, signal, track, tile, wire):
        """Bring a signal to a tile by a wire on a track that comes in there."""
        self.trees.setdefault((signal, track), {})[tile] = wire
        self.brought.setdefault((signal, tile), wire)

    def left(self, signal):
        """The list of the tiles to which a signal is to be brought yet."""
        return [tile for tile in self.wants[signal] if (signal, tile) not in self.brought]

    def clear_signal(self, signal, tracks):
        """Take away all trees of a signal; return the list of their wires."""
        found = []
        for track in range(tracks):
            tree = self.trees.pop((signal, track), {})
            for tile in tree:
                found.append(tree[tile])
                self.brought.pop((signal, tile), None)
        return found

    def _source_of(self, signal, wire):
        """The source that a tile has of a signal, by the wire that brings it there, None where it begins."""
        return self.heads[signal] if wire is None else ("wire", (wire[2] + BACK) % 4, wire[3])

    def _source_at(self, signal, tile):
        """The source that an input or out pad at a tile takes for a signal."""
        return self._source_of(signal, self.brought.get((signal, tile)) if tile != self.begins[signal] else None)

    def laid(self):
        """What is laid by the trees."""
        tiles, ins, out_places = self.placing
        pairs = []
        for (signal, _), tree in self.trees.items():
            for tile in tree:
                wire = tree[tile]
                pairs.append((wire, self._source_of(signal, tree.get(wire[:2]))))
        outs = [(*place, self._source_at(signal, place[:2])) for signal, place in zip(self.told[3], out_places)]
        inputs = []
        for cell, tile in zip(self.told[2], tiles):
            inputs.append(tuple([self._source_at(signal, tile) for signal in cell[0]]))
        return tuple(tiles), tuple(ins), tuple(outs), tuple(sorted(pairs)), tuple(inputs)
