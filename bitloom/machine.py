"""Machines of configs, which run clock by clock."""

from bitloom.bits import bits_config
from bitloom.configs import ring_of
from bitloom.errors import NotStill
from bitloom.fabric import tiles_of
from bitloom.tables import folded, looked_up
from bitloom.wiring import CELL, Wiring

NOUGHT = 0


def _sources_of_wires(config):
    """A dict from the wires of a config that have a source to it."""
    found = {}
    for (x, y), told in zip(tiles_of(config[0]), config[3]):
        for side in range(4):
            for track, source in enumerate(told[4][side]):
                if source is not None:
                    found[(x, y, side, track)] = source
    return found


class Plan:
    """What the cells and out bits of a still config take: numbers of values, of which the first one is 0.

    Behind it stand the in bits, and then the outputs of all cells, tile by tile.
    """

    def __init__(self, config):
        fabric, ins, outs, tiles = config
        self.wiring = Wiring(fabric, _sources_of_wires(config))
        self.places = {(x, y, ("pad", pad)): 1 + k for k, (x, y, pad) in enumerate(ins)}
        self.first = 1 + len(ins)
        for n, (x, y) in enumerate(tiles_of(fabric)):
            self.places[(x, y, CELL)] = self.first + n
        self.inputs = []
        for (x, y), told in zip(tiles_of(fabric), tiles):
            self.inputs.append([self._value_of(x, y, source) for source in told[3]])
        self.trees = [folded(told[0], fabric[3]) for told in tiles]
        self.used = [told[1] for told in tiles]
        self.outs = []
        for x, y, pad in outs:
            self.outs.append(self._value_of(x, y, tiles[y * fabric[0] + x][5][pad]))
        self.order = self._ordered()

    def _value_of(self, x, y, source):
        """The number of the value that a source at a tile has."""
        end = self.wiring.end(x, y, source)
        return NOUGHT if end is None else self.places.get(end[0], NOUGHT)

    def _ordered(self):
        """The list of the tiles whose cells have no register, each behind those whose outputs it takes."""
        done = {}
        for n, used in enumerate(self.used):
            todo = [] if used else [n]
            while todo:
                cell = todo[-1]
                late = [value - self.first for value in self.inputs[cell] if value >= self.first]
                late = [other for other in late if not self.used[other] and other not in done]
                if late:
                    todo.extend(late)
                else:
                    done[todo.pop()] = True
        return list(done)


class Machine:
    """A machine of a still config."""

    def __init__(self, config):
        ring = ring_of(config)
        if ring is not None:
            raise NotStill(ring)
        self.config_told = config
        self.plan = Plan(config)
        self.state = []
        self.restart()

    def config(self):
        """Its config."""
        return self.config_told

    def registers(self):
        """The tuple of what its registers have, tile by tile, 0 where none is used."""
        return tuple(self.state)

    def step(self, lot):
        """Go on by a clock with the values of the in bits; return the tuple of the out bits."""
        plan = self.plan
        values = [NOUGHT, *lot, *self.state]
        for n in plan.order:
            values[plan.first + n] = looked_up(plan.trees[n], values, plan.inputs[n])
        for n, used in enumerate(plan.used):
            if used:
                self.state[n] = looked_up(plan.trees[n], values, plan.inputs[n])
        return tuple([values[value] for value in plan.outs])

    def restart(self):
        """Put the starts into the registers."""
        self.state = [told[2] if told[1] else 0 for told in self.config_told[3]]

    def twin(self):
        """A machine that stands as this one, and goes its own way."""
        other = Machine(self.config_told)
        other.state = list(self.state)
        return other


def run(config, lots):
    """The list of the out bits for each of a list of lots, from the starts on."""
    machine = Machine(config)
    return [machine.step(lot) for lot in lots]


def read_back(bits):
    """The machine of the config that bits tell."""
    return Machine(bits_config(bits))
