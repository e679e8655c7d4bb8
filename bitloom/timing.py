"""Times of what is laid: table times, the delay and the longest ways, and runs in time."""

from bitloom.fabric import wire_in
from bitloom.waves import TABLE, WaveRun
from bitloom.wiring import LaidWires


class Times:
    """When the sources of what is laid have what they carry."""

    def __init__(self, fabric, cells, laid):
        self.lines = LaidWires(fabric, cells, laid)
        self.many, self.told = cells[1], cells[2]
        self.tables = {}
        # Tables of cells with registers may want any others, so theirs are told last.
        for used in range(2):
            for c, cell in enumerate(self.told):
                if cell[2] == used:
                    late = [self.arrival(end) for end in self.lines.reached_by_inputs(c)]
                    self.tables[c] = TABLE + max(late, default=0)

    def arrival(self, end):
        """The arrival of a source that carries a signal through so many wires."""
        signal, wires = end
        if signal < self.many or self.told[signal - self.many][2]:
            return wires
        return wires + self.tables[signal - self.many]

    def table_times(self):
        """The list of the table times of the cells."""
        return [self.tables[c] for c in range(len(self.told))]

    def way_ends(self):
        """The list of the pairs of a sum and of an end of ways: a cell's number, or an out's number turned below 0."""
        found = [(self.tables[c], c) for c, cell in enumerate(self.told) if cell[2]]
        for number, end in enumerate(self.lines.reached_by_outs()):
            found.append((self.arrival(end), -1 - number))
        return found


def table_times(fabric, cells, laid):
    """The list of the table times of the cells."""
    return Times(fabric, cells, laid).table_times()


def delay(fabric, cells, laid):
    """The delay of what is laid."""
    return max([time for time, _ in Times(fabric, cells, laid).way_ends()], default=0)


def _latest_input(times, c):
    """The tile and the source of an input of a cell that arrives last, None if the cell has none."""
    ends = times.lines.reached_by_inputs(c)
    if not ends:
        return None
    late = [times.arrival(end) for end in ends]
    return (*times.lines.tiles[c], times.lines.inputs[c][late.index(max(late))])


def longest_way(fabric, cells, laid):
    """Any longest way, [] if there is no way."""
    times = Times(fabric, cells, laid)
    ends = times.way_ends()
    if not ends:
        return []
    _, end = max(ends)
    lines = times.lines
    # The way is found from its last point on.
    if end >= 0:
        points, place = [("table", end)], _latest_input(times, end)
    else:
        x, y, _, source = lines.out_places[-1 - end]
        points, place = [], (x, y, source)
    while place is not None:
        x, y, source = place
        if source[0] == "wire":
            wire = wire_in(fabric, x, y, source[1], source[2])
            points.append(("wire", wire))
            place = (wire[0], wire[1], lines.wiring.sources[wire])
            continue
        signal = lines.heads[place]
        place = None
        if signal < times.many:
            points.append(("pad", signal))
        elif times.told[signal - times.many][2]:
            points.append(("register", signal - times.many))
        else:
            points.append(("table", signal - times.many))
            place = _latest_input(times, signal - times.many)
    return points[::-1]


def timed_outputs(fabric, cells, laid, lots, period):
    """The list of the tuples of outputs of the timed run."""
    waves = WaveRun(cells, LaidWires(fabric, cells, laid), period)
    return [waves.clock(lot) for lot in lots]
