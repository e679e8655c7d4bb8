"""What may stand at the places of a config."""

from bitloom.fabric import is_border, neighbour
from bitloom.names import is_below
from bitloom.wiring import is_source_at

TOP = (None, ("cell",))


def sides_of(fabric, x, y):
    """The list of the sides of a tile on which it has a neighbour."""
    return [side for side in range(4) if neighbour(fabric, x, y, side) is not None]


def _pads_at(fabric, x, y):
    """The list of the in pads of a tile as sources."""
    return [("pad", pad) for pad in range(fabric[4])] if is_border(fabric, x, y) else []


def _wires_at(fabric, x, y):
    """The list of the wires that come in to a tile as sources."""
    return [("wire", side, track) for side in sides_of(fabric, x, y) for track in range(fabric[2])]


def input_menu(fabric, x, y):
    """The list of what may stand at a cell's input."""
    return [*TOP, *_wires_at(fabric, x, y), *_pads_at(fabric, x, y)]


def wire_menu(fabric, x, y, track):
    """The list of what may stand at a wire on a track that leaves a tile, whichever side it goes to."""
    return [*TOP, *[("wire", side, track) for side in sides_of(fabric, x, y)], *_pads_at(fabric, x, y)]


def out_menu(fabric, x, y):
    """The list of what may stand at an out pad of a tile."""
    return [*TOP, *_wires_at(fabric, x, y)]


def stands_in(fabric, x, y, value):
    """Whether a value, which may be anything, may stand at a cell's input."""
    return value is None or is_source_at(fabric, x, y, value)


def is_place(fabric, value):
    """Whether a value, which may be anything, is the place of a pad."""
    if not isinstance(value, tuple) or len(value) != 3:
        return False
    x, y, pad = value
    if not is_below(x, fabric[0]) or not is_below(y, fabric[1]) or not is_below(pad, fabric[4]):
        return False
    return is_border(fabric, x, y)
