"""Cell nets placed on fabrics: their room, settled placings, lengths, and crowded cuts."""

from bitloom.errors import NoRoom
from bitloom.fabric import pads_of, tiles_of
from bitloom.spreading import Spread, nets_of

LAPS = 2


def _lacking(fabric, cells):
    """The word of what a fabric has too little of for a cell net, or None."""
    _, many, told, outs = cells
    pads = len(pads_of(fabric))
    if any([len(cell[0]) > fabric[3] for cell in told]):
        return "inputs"
    if len(told) > fabric[0] * fabric[1]:
        return "cells"
    if many > pads:
        return "ins"
    return "outs" if len(outs) > pads else None


def has_room(fabric, cells):
    """Whether a cell net has room on a fabric."""
    return _lacking(fabric, cells) is None


def _spread_pads(fabric, many):
    """The list of many pads, about as far apart as can be."""
    pads = pads_of(fabric)
    return [pads[k * len(pads) // many] for k in range(many)]


def _moved_pad(net, pad, free, tiles):
    """The pad among the free ones and a given one by which a net is shortest; those of the net change."""
    net.pads.remove(pad[:2])
    late = {}
    for other in [pad, *free]:
        if other[:2] not in late:
            net.pads.append(other[:2])
            late[other[:2]] = (net.length(tiles), len(late), other)
            net.pads.pop()
    best = min(list(late.values()))[2]
    net.pads.append(best[:2])
    return best


def _with_pads_moved(fabric, signals, pads, nets, tiles):
    """The list of the pads of some signals, each brought to where its signal becomes shortest."""
    taken = {pad: True for pad in pads}
    found = []
    for signal, pad in zip(signals, pads):
        best = pad
        if signal in nets:
            free = [other for other in pads_of(fabric) if other not in taken]
            best = _moved_pad(nets[signal], pad, free, tiles)
            del taken[pad]
            taken[best] = True
        found.append(best)
    return found


def place(fabric, cells):
    """A settled placing; raise NoRoom with a word if a cell net has no room."""
    word = _lacking(fabric, cells)
    if word is not None:
        raise NoRoom(word)
    _, many, told, taken = cells
    all_tiles = tiles_of(fabric)
    ins, outs = _spread_pads(fabric, many), _spread_pads(fabric, len(taken))
    spread = Spread(cells, all_tiles[:len(told)], ins, outs)
    spread.settle(all_tiles)
    for _ in range(LAPS):
        nets = nets_of(cells, ins, outs)
        ins = _with_pads_moved(fabric, list(range(many)), ins, nets, spread.tiles)
        outs = _with_pads_moved(fabric, taken, outs, nets, spread.tiles)
        spread = Spread(cells, spread.tiles, ins, outs)
        spread.settle(all_tiles)
    return tuple(spread.tiles), tuple(ins), tuple(outs)


def length(cells, placing):
    """The length of a placing."""
    tiles, ins, outs = placing
    return sum([net.length(tiles) for net in list(nets_of(cells, ins, outs).values())])


def is_settled(fabric, cells, placing):
    """Whether a placing is settled."""
    tiles, ins, outs = placing
    spread = Spread(cells, tiles, ins, outs)
    all_tiles = tiles_of(fabric)
    return all([spread.gainful_move(c, all_tiles) is None for c in range(len(tiles))])


def _crossing(cells, placing, nets, cut):
    """The ascending list of the signals that cross a cut, their nets being told."""
    many = cells[1]
    tiles, ins, _ = placing
    axis, at, way = cut
    found = []
    for signal in nets:
        begin = ins[signal] if signal < many else tiles[signal - many]
        # Where the signal begins is on the side on which it does not end.
        beyond = [spot for spot in nets[signal].spots(tiles) if (spot[axis] >= at) != (way == 1)]
        if (begin[axis] >= at) == (way == 1) and beyond:
            found.append(signal)
    return found


def crossing(cells, placing, cut):
    """The ascending list of the signals that cross a cut."""
    return _crossing(cells, placing, nets_of(cells, placing[1], placing[2]), cut)


def crowded(fabric, cells, placing):
    """The first crowded cut, or None."""
    wide, high, tracks, _, _ = fabric
    nets = nets_of(cells, placing[1], placing[2])
    cuts = [(0, at, way) for at in range(1, wide) for way in range(2)]
    cuts.extend([(1, at, way) for at in range(1, high) for way in range(2)])
    for cut in cuts:
        if len(_crossing(cells, placing, nets, cut)) > tracks * (wide if cut[0] else high):
            return cut
    return None
