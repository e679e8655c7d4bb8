"""Signals brought along a fabric of one row or one column."""

from bitloom.errors import NoRoom

EAST = 0
NORTH = 1


def _bring(routes, signal, track, wires):
    """Bring a signal along wires, each a pair of the wire and of the tile to which it leads."""
    for wire, tile in wires:
        routes.put(signal, track, tile, wire)


def _tile_at(axis, place):
    """The tile with a number, counted along the axis."""
    return (place, 0) if axis == 0 else (0, place)


def _stretches(routes, axis, way):
    """The ascending list of triples (where it begins, where it ends, signal), along a way, 1 or -1."""
    found = []
    for signal in routes.wants:
        begin = way * routes.begins[signal][axis]
        end = max([begin, *[way * tile[axis] for tile in routes.wants[signal]]])
        if end > begin:
            found.append((begin, end, signal))
    return sorted(found)


def lay_along(fabric, routes):
    """Bring all signals along the only row or column; raise NoRoom if the tracks don't suffice."""
    axis = 0 if fabric[1] == 1 else 1
    side = EAST if axis == 0 else NORTH
    for way in (1, -1):
        # Each takes the first track that no earlier one needs from where it begins on.
        ends = [None for _ in range(fabric[2])]
        for begin, end, signal in _stretches(routes, axis, way):
            free = [track for track, last in enumerate(ends) if last is None or last <= begin]
            if not free:
                raise NoRoom("tracks")
            ends[free[0]] = end
            steps = []
            for place in range(begin, end):
                x, y = _tile_at(axis, way * place)
                steps.append(((x, y, side if way == 1 else side + 2, free[0]), _tile_at(axis, way * (place + 1))))
            _bring(routes, signal, free[0], steps)
