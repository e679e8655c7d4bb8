"""Slow and plain models of what is laid, of runs in time, of configs and of their bits ([S7.4] to [S8.6])."""

from samples import replaced

from bitloom.fabric import all_wires, neighbour, pads_of, tiles_of, wire_in

# The examples of part 7 and part 8.
LAID_T = (
    ((0, 0),), ((1, 0, 0),), ((1, 0, 0, ("wire", 2, 0)),), (((0, 0, 0, 0), ("cell",)), ((1, 0, 2, 0), ("pad", 0))),
    ((("wire", 0, 0), ("cell",)),),
)
TILE_A = (10, 0, 0, (("pad", 0), None), ((("cell",),), (), (), ()), (None,))
TILE_B = (8, 1, 1, (("wire", 2, 0), ("pad", 0)), ((), (), (None,), ()), (("cell",),))
CONFIG_C = ((2, 1, 1, 2, 1), ((0, 0, 0), (1, 0, 0)), ((1, 0, 0),), (TILE_A, TILE_B))


def paths_in(value, path=()):
    """The paths of all parts of a nested tuple."""
    found = [path]
    if isinstance(value, tuple):
        for k, part in enumerate(value):
            found.extend(paths_in(part, path + (k,)))
    return found


def part_at(value, path):
    """The part at a path."""
    for k in path:
        value = value[k]
    return value


def spoilt(dice, value, many=1):
    """A nested tuple with some parts exchanged for others, left out, or told twice."""
    for _ in range(many):
        paths = paths_in(value)
        path = dice.choice(paths)
        part = part_at(value, path)
        other = [None, True, (), "cell", -1, 0, 1, 2, part_at(value, dice.choice(paths)), part_at(value, dice.choice(paths))]
        if isinstance(part, int) and not isinstance(part, bool):
            other += [part + 1, part - 1, 1 - part]
        if isinstance(part, tuple):
            other += [list(part), part[1:], part[:-1], part + part[:1], part[::-1]]
        value = replaced(value, path, dice.choice(other))
    return value


def is_int(value):
    """Whether a value is an integer."""
    return type(value) is int


def has_shape(value, shape):
    """Whether a value has the shape: int, "source", or a tuple of shapes."""
    if shape is int:
        return is_int(value)
    if type(value) is not tuple:
        return False
    if shape == "source":
        return value == ("cell",) or any(
            len(value) == many and type(value[0]) is str and value[0] == word and all(map(is_int, value[1:]))
            for word, many in (("pad", 2), ("wire", 3))
        )
    return len(value) == len(shape) and all(has_shape(part, inner) for part, inner in zip(value, shape))


def sources_at(fabric, x, y):
    """All sources at a tile."""
    found = [("cell",)]
    found += [("wire", s, t) for s in range(4) if neighbour(fabric, x, y, s) for t in range(fabric[2])]
    return found + [("pad", p) for a, b, p in pads_of(fabric) if (a, b) == (x, y)]


def carries(fabric, cells, laid, x, y, source):
    """The signal that a source carries, by following it; None if none."""
    wires = dict(laid[3])
    for _ in range(len(wires) + 1):
        if source == ("cell",):
            return cells[1] + laid[0].index((x, y)) if (x, y) in laid[0] else None
        if source[0] == "pad":
            return laid[1].index((x, y, source[1])) if (x, y, source[1]) in laid[1] else None
        wire = wire_in(fabric, x, y, source[1], source[2])
        if wire not in wires:
            return None
        x, y, source = *wire[:2], wires[wire]
    return None


def model_laid_fault(fabric, cells, value):
    """The first fault of what should be laid rightly, as a pair (word, number), or None."""
    _, many, told, outs = cells
    if type(value) is not tuple or len(value) != 5 or any(type(part) is not tuple for part in value):
        return "form", None
    shapes = (
        ((int, int),) * len(told), ((int,) * 3,) * many, ((int, int, int, "source"),) * len(outs),
        (((int,) * 4, "source"),) * len(value[3]), tuple(("source",) * len(cell[0]) for cell in told),
    )
    if not has_shape(value, shapes):
        return "form", None
    tiles, ins, outp, wires, inputs = value
    for word, parts, allowed in (
        ("tile", tiles, tiles_of(fabric)), ("in", ins, pads_of(fabric)), ("out", [out[:3] for out in outp], pads_of(fabric)),
    ):
        for n, part in enumerate(parts):
            if part not in allowed or part in parts[:n]:
                return word, n
    for n, (wire, source) in enumerate(wires):
        may_be = wire in all_wires(fabric) and (n == 0 or wires[n - 1][0] < wire)
        if not may_be or source not in sources_at(fabric, *wire[:2]) or source[0] == "wire" and source[2] != wire[3]:
            return "wire", n
    for n, (wire, source) in enumerate(wires):
        if carries(fabric, cells, value, *wire[:2], source) is None:
            return "empty", n
    for c, cell in enumerate(told):
        for signal, source in zip(cell[0], inputs[c]):
            if source not in sources_at(fabric, *tiles[c]) or carries(fabric, cells, value, *tiles[c], source) != signal:
                return "input", c
    for n, (x, y, _, source) in enumerate(outp):
        if source[0] == "pad" or source not in sources_at(fabric, x, y):
            return "output", n
        if carries(fabric, cells, value, x, y, source) != outs[n]:
            return "output", n
    return None


def unused_wires(fabric, laid):
    """The wires that no wire, input or out pad takes."""
    taken = [(*wire[:2], source) for wire, source in laid[3]] + [(x, y, source) for x, y, _, source in laid[2]]
    for tile, sources in zip(laid[0], laid[4]):
        taken += [(*tile, source) for source in sources]
    used = {wire_in(fabric, x, y, source[1], source[2]) for x, y, source in taken if source[0] == "wire"}
    return [wire for wire, _ in laid[3] if wire not in used]


def laid_runs(fabric, cells, laid, lots):
    """The outputs of the machine of S7.5, each value being asked for through the wires."""
    tiles, ins, outp, wires, inputs = laid
    wires, state, found = dict(wires), [cell[3] for cell in cells[2]], []

    def table(c, lot):
        return cells[2][c][1] >> sum(value(*tiles[c], source, lot) << j for j, source in enumerate(inputs[c])) & 1

    def value(x, y, source, lot):
        if source[0] == "wire":
            wire = wire_in(fabric, x, y, source[1], source[2])
            return value(*wire[:2], wires[wire], lot)
        if source[0] == "pad":
            return lot[ins.index((x, y, source[1]))]
        c = tiles.index((x, y))
        return state[c] if cells[2][c][2] else table(c, lot)

    for lot in lots:
        found.append(tuple(value(x, y, source, lot) for x, y, _, source in outp))
        state[:] = [table(c, lot) for c in range(len(tiles))]
    return found


def timed_runs(fabric, cells, laid, lots, period):
    """The outputs of the timed run, moment by moment and wire by wire."""
    tiles, ins, outp, wires, inputs = laid
    state, found = [cell[3] for cell in cells[2]], []
    last = {**{wire: 0 for wire, _ in wires}, **{c: 0 for c in range(len(tiles))}}
    for lot in lots:
        moments = []

        def value(x, y, source, m):
            if source[0] == "wire":
                return moments[m][wire_in(fabric, x, y, source[1], source[2])]
            if source[0] == "pad":
                return lot[ins.index((x, y, source[1]))]
            c = tiles.index((x, y))
            return state[c] if cells[2][c][2] else moments[m][c]

        for m in range(period + 1):
            now = dict(last)
            for wire, source in wires if m >= 1 else ():
                now[wire] = value(*wire[:2], source, m - 1)
            for c in range(len(tiles)) if m >= 4 else ():
                bits = [value(*tiles[c], source, m - 4) for source in inputs[c]]
                now[c] = cells[2][c][1] >> sum(bit << j for j, bit in enumerate(bits)) & 1
            moments.append(now)
        found.append(tuple(value(x, y, source, period) for x, y, _, source in outp))
        last = moments[period]
        state = [last[c] for c in range(len(tiles))]
    return found


def all_way_sums(fabric, cells, laid):
    """The greatest sums of ways that end with the table of each cell, and at each out."""
    tiles, _, outp, wires, inputs = laid
    wires = dict(wires)

    def arrival(x, y, source):
        if source[0] == "wire":
            wire = wire_in(fabric, x, y, source[1], source[2])
            return 1 + arrival(*wire[:2], wires[wire])
        if source[0] == "pad" or cells[2][tiles.index((x, y))][2]:
            return 0
        return table(tiles.index((x, y)))

    def table(c):
        return 4 + max([arrival(*tiles[c], source) for source in inputs[c]], default=0)

    return [table(c) for c in range(len(tiles))], [arrival(x, y, source) for x, y, _, source in outp]


def is_way(fabric, cells, laid, points):
    """Whether points are a way by S7.8."""
    tiles, ins, outp, wires, inputs = laid
    wires = dict(wires)

    def told(x, y, source):
        """The point that one takes which takes a source."""
        if source[0] == "wire":
            return "wire", wire_in(fabric, x, y, source[1], source[2])
        if source[0] == "pad":
            return "pad", ins.index((x, y, source[1]))
        c = tiles.index((x, y))
        return "register" if cells[2][c][2] else "table", c

    def behind(point):
        if point[0] == "wire":
            return [told(*point[1][:2], wires[point[1]])]
        return [told(*tiles[point[1]], source) for source in inputs[point[1]]]

    begin, end = points[0], points[-1]
    if begin[0] == "wire" or begin[0] == "table" and inputs[begin[1]]:
        return False
    for one, other in zip(points, points[1:]):
        if other[0] not in ("wire", "table") or one not in behind(other):
            return False
    is_end = end[0] == "table" and cells[2][end[1]][2] == 1
    return is_end or end in [told(x, y, source) for x, y, _, source in outp]


def plain_menu(fabric, x, y, kind, track=0):
    """The menu of a place by S8.1."""
    found = [None, ("cell",)]
    for s in range(4):
        for t in range(fabric[2]):
            if neighbour(fabric, x, y, s) and (kind != "wire" or t == track):
                found.append(("wire", s, t))
    return found + [("pad", p) for a, b, p in pads_of(fabric) if (a, b) == (x, y) and kind != "out"]


def places_in_tile(fabric, x, y):
    """The triples (path, menu, sort) of the places of a tile config, in their order."""
    found = [((3, j), plain_menu(fabric, x, y, "input")) for j in range(fabric[3])]
    for s in range(4):
        if neighbour(fabric, x, y, s):
            found += [((4, s, t), plain_menu(fabric, x, y, "wire", t)) for t in range(fabric[2])]
    pads = sum((x, y) == pad[:2] for pad in pads_of(fabric))
    return found + [((5, q), plain_menu(fabric, x, y, "out")) for q in range(pads)]


def stands_in(value, menu):
    """Whether a value of any kind stands in a menu."""
    return value is None or has_shape(value, "source") and value in menu


def random_config(dice, fabric, full=2):
    """A config by chance; the greater full is, the fewer places are None."""
    pads = pads_of(fabric)
    ins = tuple(dice.sample(pads, dice.randint(0, min(4, len(pads)))))
    outs = tuple(dice.sample(pads, dice.randint(0, min(4, len(pads)))))
    tiles = []
    for x, y in tiles_of(fabric):
        sides = [() if neighbour(fabric, x, y, s) is None else (None,) * fabric[2] for s in range(4)]
        many = sum((x, y) == pad[:2] for pad in pads)
        tile = (dice.randrange(2 ** 2 ** fabric[3]), dice.randrange(2), dice.randrange(2), (None,) * fabric[3])
        tile = (*tile, tuple(sides), (None,) * many)
        for path, menu in places_in_tile(fabric, x, y):
            if dice.randrange(full + 1):
                tile = replaced(tile, path, dice.choice(menu))
        tiles.append(tile)
    return fabric, ins, outs, tuple(tiles)


def model_config_fault(value):
    """The path of the first wrong part of what should be a config, or None."""
    if type(value) is not tuple or len(value) != 4:
        return ()
    fabric = value[0]
    limits = ((1, 16), (1, 16), (1, 60), (2, 6), (1, 8))
    if not has_shape(fabric, (int,) * 5) or not all(low <= n <= high for n, (low, high) in zip(fabric, limits)):
        return (0,)
    for n in (1, 2):
        if type(value[n]) is not tuple:
            return (n,)
        for k, place in enumerate(value[n]):
            if not has_shape(place, (int,) * 3) or place not in pads_of(fabric) or place in value[n][:k]:
                return n, k
    if type(value[3]) is not tuple or len(value[3]) != fabric[0] * fabric[1]:
        return (3,)
    for n, (x, y) in enumerate(tiles_of(fabric)):
        path = model_tile_fault(fabric, x, y, value[3][n])
        if path is not None:
            return (3, n, *path)
    return None


def model_tile_fault(fabric, x, y, tile):
    """The path of the first wrong part of what should be a tile config, or None."""
    if type(tile) is not tuple or len(tile) != 6:
        return ()
    for k, many in enumerate((2 ** 2 ** fabric[3], 2, 2)):
        if not is_int(tile[k]) or not 0 <= tile[k] < many:
            return (k,)
    pads = sum((x, y) == pad[:2] for pad in pads_of(fabric))
    rows = [((3,), fabric[3])]
    rows += [((4, s), fabric[2] if neighbour(fabric, x, y, s) else 0) for s in range(4)] + [((5,), pads)]
    menus = dict(places_in_tile(fabric, x, y))
    for path, many in rows:
        if path == (4, 0) and (type(tile[4]) is not tuple or len(tile[4]) != 4):
            return (4,)
        row = part_at(tile, path)
        if type(row) is not tuple or len(row) != many:
            return path
        for j, source in enumerate(row):
            if not stands_in(source, menus[(*path, j)]):
                return (*path, j)
    return None


def sources_of_thing(config, thing):
    """The sources of a wire or cell of a config, as things or None."""
    wide = config[0][0]
    tile = config[3][thing[2] * wide + thing[1]]
    sources = tile[3] if thing[0] == "cell" else [tile[4][thing[3]][thing[4]]]
    found = []
    for source in sources:
        if source == ("cell",):
            found.append(("cell", *thing[1:3]))
        elif source is not None and source[0] == "wire":
            found.append(("wire", *wire_in(config[0], *thing[1:3], *source[1:])))
        else:
            found.append(None if source is None else (*thing[1:3], source[1]))
    return found


def config_things(config):
    """All wires and cells without a register of a config."""
    cells = [("cell", *tile) for tile, told in zip(tiles_of(config[0]), config[3]) if not told[1]]
    return cells + [("wire", *wire) for wire in all_wires(config[0])]


def is_still(config):
    """Whether things may be put into a row, each behind its sources."""
    left = set(config_things(config))
    while True:
        free = {thing for thing in left if not any(part in left for part in sources_of_thing(config, thing))}
        if not free:
            return not left
        left -= free


def config_runs(config, lots):
    """The pairs (out bits, registers ahead) of a still config, each value being asked for through its sources."""
    fabric, ins, outs, tiles = config
    state, found = [tile[1] * tile[2] for tile in tiles], []

    def number(thing):
        return thing[2] * fabric[0] + thing[1]

    def value(thing, lot):
        if thing is None:
            return 0
        if len(thing) == 3 and is_int(thing[0]):
            return lot[ins.index(thing)] if thing in ins else 0
        if thing[0] == "wire":
            return value(sources_of_thing(config, thing)[0], lot)
        return state[number(thing)] if tiles[number(thing)][1] else table(thing, lot)

    def table(thing, lot):
        bits = [value(source, lot) for source in sources_of_thing(config, thing)]
        return tiles[number(thing)][0] >> sum(bit << j for j, bit in enumerate(bits)) & 1

    for lot in lots:
        told = []
        for x, y, q in outs:
            source = tiles[number(("cell", x, y))][5][q]
            shown = ("cell", x, y) if source == ("cell",) else source and ("wire", *wire_in(fabric, x, y, *source[1:]))
            told.append(value(shown, lot))
        found.append((tuple(told), tuple(state)))
        state[:] = [table(("cell", *tile), lot) if tiles[n][1] else 0 for n, tile in enumerate(tiles_of(fabric))]
    return found


def number_bits(number, width):
    """A number in a width, the bit that counts 1 first."""
    return [int(sign) for sign in f"{number:0{width}b}"[::-1]] if width else []


def width_of(many):
    """The least width for so many things."""
    width = 0
    while 2**width < many:
        width += 1
    return width


def model_bits(config):
    """The bits of a config by S8.5."""
    (wide, high, tracks, k, pads), ins, outs, tiles = config
    found = number_bits(wide - 1, 4) + number_bits(high - 1, 4) + number_bits(tracks - 1, 6)
    found += number_bits(k - 2, 3) + number_bits(pads - 1, 3) + number_bits(len(ins), 9) + number_bits(len(outs), 9)
    places = pads_of(config[0])
    for place in ins + outs:
        found += number_bits(places.index(place), width_of(len(places)))
    for (x, y), tile in zip(tiles_of(config[0]), tiles):
        found += number_bits(tile[0], 2**k) + [tile[1], tile[2]]
        for path, menu in places_in_tile(config[0], x, y):
            found += number_bits(menu.index(part_at(tile, path)), width_of(len(menu)))
    return tuple(found)


class WrongPlace(Exception):
    """Bits tell no config."""


def model_bits_fault(bits):
    """The first wrong place of bits, or None."""
    place = 0

    def number(width, is_right):
        nonlocal place
        if place + width > len(bits):
            raise WrongPlace(len(bits))
        told = sum(bit << j for j, bit in enumerate(bits[place:place + width]))
        if not is_right(told):
            raise WrongPlace(place)
        place += width
        return told

    try:
        wide, high = [1 + number(4, lambda n: True) for _ in range(2)]
        tracks = 1 + number(6, lambda n: n < 60)
        k = 2 + number(3, lambda n: n < 5)
        fabric = (wide, high, tracks, k, 1 + number(3, lambda n: True))
        places = pads_of(fabric)
        counts = [number(9, lambda n: n <= len(places)) for _ in range(2)]
        for many in counts:
            met = []
            for _ in range(many):
                met.append(number(width_of(len(places)), lambda n: n < len(places) and n not in met))
        for x, y in tiles_of(fabric):
            number(2**k, lambda n: True)
            number(2, lambda n: True)
            for _, menu in places_in_tile(fabric, x, y):
                number(width_of(len(menu)), lambda n: n < len(menu))
        return None if place == len(bits) else place
    except WrongPlace as wrong:
        return wrong.args[0]
