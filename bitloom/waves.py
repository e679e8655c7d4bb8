"""Runs in time: what signals have at the moments of a clock, as numbers with a bit for each moment."""

TABLE = 4


def _wave_by(truth, waves, full):
    """What a truth tells at each moment, by the waves of its inputs; full has all moments."""
    level = [full if truth >> place & 1 else 0 for place in range(1 << len(waves))]
    # The input that counts most parts the places into two halves.
    for wave in waves[::-1]:
        half = len(level) // 2
        level = [level[place] & (full ^ wave) | level[half + place] & wave for place in range(half)]
    return level[0]


class WaveRun:
    """What is laid, run in time clock by clock.

    Of each signal as many moments of earlier clocks are kept as the longest wires ask for. The last moment of a
    clock is not among them: a wire has at a first moment what it had at the last one, so this tells nothing new.
    """

    def __init__(self, cells, lines, period):
        self.many, self.told = cells[1], cells[2]
        self.period_told = period
        self.full = (1 << (period + 1)) - 1
        self.inputs = [lines.reached_by_inputs(c) for c in range(len(self.told))]
        self.out_ends = lines.reached_by_outs()
        self.kept = max([wires for ends in [*self.inputs, self.out_ends] for _, wires in ends], default=0)
        self.past = [0 for _ in range(self.many + len(self.told))]
        self.lasts = [0 for _ in self.told]
        self.state = [cell[3] for cell in self.told]
        self.now = []

    def _wave_at(self, end):
        """The wave of a signal behind so many wires."""
        signal, wires = end
        if wires == 0:
            return self.now[signal]
        so_far = self.past[signal] | (self.now[signal] & self.full >> 1) << self.kept
        return so_far >> (self.kept - wires) & self.full

    def _table_wave(self, c):
        """The wave of the table of a cell; its last moment is kept for the next clock."""
        wave = _wave_by(self.told[c][1], [self._wave_at(end) for end in self.inputs[c]], self.full)
        early = (1 << TABLE) - 1 if self.lasts[c] else 0
        wave = (wave << TABLE | early) & self.full
        self.lasts[c] = wave >> self.period_told
        return wave

    def clock(self, lot):
        """Go on by a clock; return the tuple of the outs that are read at its last moment."""
        self.now = [self.full if bit else 0 for bit in [*lot, *self.state]]
        for c, cell in enumerate(self.told):
            if not cell[2]:
                self.now[self.many + c] = self._table_wave(c)
        outs = tuple([self._wave_at(end) >> self.period_told for end in self.out_ends])
        for c, cell in enumerate(self.told):
            if cell[2]:
                self.state[c] = self._table_wave(c) >> self.period_told
        for signal, wave in enumerate(self.now):
            self.past[signal] = (self.past[signal] | (wave & self.full >> 1) << self.kept) >> self.period_told
        return outs
