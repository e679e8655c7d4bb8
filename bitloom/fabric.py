"""Fabrics of tiles: whether a value is one, its tiles, wires and pads, and the fabric for a cell net."""

from math import isqrt

from bitloom.errors import BadFabric, NoRoom
from bitloom.names import is_below, is_number

MOST_WIDE = 16
MOST_TRACKS = 60
MOST_PADS = 8
LIMITS = ((1, 16), (1, 16), (1, 60), (2, 6), (1, 8))


def check_fabric(value):
    """Raise BadFabric with the path of the first wrong part, if a value is no fabric."""
    if not isinstance(value, tuple) or len(value) != len(LIMITS):
        raise BadFabric(())
    for n, (least, most) in enumerate(LIMITS):
        if not is_number(value[n]) or not least <= value[n] <= most:
            raise BadFabric((n,))


def is_fabric(value):
    """Whether a value, which may be anything, is a fabric."""
    try:
        check_fabric(value)
    except BadFabric:
        return False
    return True


def neighbour(fabric, x, y, side):
    """The neighbour of a tile on a side, or None."""
    wide, high, _, _, _ = fabric
    # Sides 0 and 2 lead to the next and the last column, 1 and 3 to the next and the last row.
    if side & 1:
        y += 2 - side
    else:
        x += 1 - side
    return (x, y) if 0 <= x < wide and 0 <= y < high else None


def is_border(fabric, x, y):
    """Whether a tile is a border tile."""
    return any([neighbour(fabric, x, y, side) is None for side in range(4)])


def is_wire(fabric, value):
    """Whether a value, which may be anything, is a wire of a fabric."""
    wide, high, tracks, _, _ = fabric
    if not isinstance(value, tuple) or len(value) != 4:
        return False
    x, y, side, track = value
    if not is_below(x, wide) or not is_below(y, high) or not is_below(side, 4) or not is_below(track, tracks):
        return False
    return neighbour(fabric, x, y, side) is not None


def wire_in(fabric, x, y, side, track):
    """The wire that comes in to a tile from a side on a track, or None if it has no neighbour there."""
    tile = neighbour(fabric, x, y, side)
    return None if tile is None else (*tile, (side + 2) % 4, track)


def all_wires(fabric):
    """The ascending list of all wires."""
    wide, high, tracks, _, _ = fabric
    found = []
    for x in range(wide):
        for y in range(high):
            for side in range(4):
                if neighbour(fabric, x, y, side) is not None:
                    found.extend([(x, y, side, track) for track in range(tracks)])
    return found


def tiles_of(fabric):
    """The list of all tiles, row by row."""
    return [(x, y) for y in range(fabric[1]) for x in range(fabric[0])]


def pads_of(fabric):
    """The list of all triples (x, y, p) of in pads, tile by tile."""
    return [(x, y, p) for x, y in tiles_of(fabric) if is_border(fabric, x, y) for p in range(fabric[4])]


def _up_divided(number, by):
    """A number divided by another one, rounded up."""
    return -(-number // by)


def fabric_for(k, cells, signals, ins, outs):
    """The fabric for so many cells, signals, in bits and outs; raise NoRoom if there is none."""
    side = max(1, isqrt(max(0, cells - 1)) + 1)
    if side > MOST_WIDE:
        raise NoRoom("cells")
    border = side * side if side < 3 else 4 * side - 4
    if _up_divided(ins, border) > MOST_PADS:
        raise NoRoom("ins")
    if _up_divided(outs, border) > MOST_PADS:
        raise NoRoom("outs")
    if signals > MOST_TRACKS:
        raise NoRoom("tracks")
    return side, side, max(1, signals), k, max(1, _up_divided(max(ins, outs), border))
