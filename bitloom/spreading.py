"""Where the signals of a placing begin and end, and how long they are."""


class Net:
    """A wanted signal: the cells that it comes from and goes to, and the tiles of its pads."""

    def __init__(self):
        self.cell_numbers = {}
        self.pads = []

    def spots(self, tiles):
        """The list of the tiles where the signal begins or ends, tiles telling those of all cells."""
        return [*self.pads, *[tiles[c] for c in self.cell_numbers]]

    def length(self, tiles):
        """How far the tiles of the signal lie apart."""
        places = self.spots(tiles)
        columns = [x for x, _ in places]
        rows = [y for _, y in places]
        return max(columns) - min(columns) + max(rows) - min(rows)


def nets_of(cells, ins, outs):
    """A dict from all wanted signals, ascending, to their nets, by the places of in pads and out pads."""
    _, many, told, taken = cells
    ends = {signal: True for signal in [*taken, *[each for cell in told for each in cell[0]]]}
    found = {signal: Net() for signal in sorted(ends)}
    for signal in found:
        net = found[signal]
        if signal < many:
            net.pads.append(ins[signal][:2])
        else:
            net.cell_numbers[signal - many] = True
    for c, cell in enumerate(told):
        for signal in cell[0]:
            net = found[signal]
            net.cell_numbers[c] = True
    for signal, place in zip(taken, outs):
        net = found[signal]
        net.pads.append(place[:2])
    return found


class Spread:
    """Cells on tiles, of which some may be brought to others, or exchanged."""

    def __init__(self, cells, tiles, ins, outs):
        self.tiles = list(tiles)
        self.nets = list(nets_of(cells, ins, outs).values())
        self.lengths = [net.length(self.tiles) for net in self.nets]
        self.nets_at = [[] for _ in tiles]
        for number, net in enumerate(self.nets):
            for c in net.cell_numbers:
                self.nets_at[c].append(number)

    def _changed(self, moves):
        """The lengths of the nets that change when cells are brought to tiles: a dict by the nets' numbers."""
        late = list(self.tiles)
        touched = {}
        for c, tile in moves:
            late[c] = tile
            for number in self.nets_at[c]:
                touched[number] = True
        return {number: self.nets[number].length(late) for number in touched}

    def gain(self, moves):
        """How much shorter all becomes by some moves, which are pairs of a cell and a tile."""
        changed = self._changed(moves)
        return sum([self.lengths[number] - changed[number] for number in changed])

    def do(self, moves):
        """Do some moves."""
        changed = self._changed(moves)
        for number in changed:
            self.lengths[number] = changed[number]
        for c, tile in moves:
            self.tiles[c] = tile

    def _moves_to(self, c, tile, holders):
        """The moves that bring a cell to a tile, holders being a dict from tiles to their cells; () if none do."""
        if tile not in holders:
            return ((c, tile),)
        other = holders[tile]
        # An exchange is told by its lesser cell alone.
        return ((c, tile), (other, self.tiles[c])) if c < other else ()

    def gainful_move(self, c, all_tiles):
        """Moves of a cell to some tile by which all becomes shorter, or None."""
        holders = {tile: other for other, tile in enumerate(self.tiles)}
        for tile in all_tiles:
            moves = self._moves_to(c, tile, holders)
            if moves and self.gain(moves) > 0:
                return moves
        return None

    def settle(self, all_tiles):
        """Do moves by which all becomes shorter until there are none."""
        c = 0
        still = 0
        while still < len(self.tiles):
            moves = self.gainful_move(c, all_tiles)
            if moves is None:
                still += 1
                c = (c + 1) % len(self.tiles)
            else:
                still = 0
                self.do(moves)
