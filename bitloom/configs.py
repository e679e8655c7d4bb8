"""Configs of fabrics: menus, whether a value is a config, rings, and the configs of what is laid."""

from bitloom.errors import BadConfig
from bitloom.fabric import is_border, is_fabric, is_wire, neighbour, tiles_of, wire_in
from bitloom.menus import input_menu, is_place, out_menu, stands_in, wire_menu
from bitloom.names import is_below, is_value
from bitloom.wiring import CELL

MEMBERS = 4
TILE_MEMBERS = 6


def menu_of_input(fabric, x, y):
    """The list of the menu of a cell's input."""
    return input_menu(fabric, x, y)


def menu_of_wire(fabric, x, y, side, track):
    """The list of the menu of a wire that leaves a tile to a side on a track; it is the same for all sides."""
    return wire_menu(fabric, x, y, track)


def menu_of_out(fabric, x, y):
    """The list of the menu of an out pad of a tile."""
    return out_menu(fabric, x, y)


def _check_places(fabric, places, number):
    """Look at the places of in pads or out pads, which are a member of a config."""
    if not isinstance(places, tuple):
        raise BadConfig((number,))
    met = {}
    for k, place in enumerate(places):
        if not is_place(fabric, place) or place in met:
            raise BadConfig((number, k))
        met[place] = True


def _check_sources(fabric, tile, sources, many, path):
    """Look at a tuple of so many sources at a tile; the path tells what takes them."""
    if not isinstance(sources, tuple) or len(sources) != many:
        raise BadConfig(path)
    x, y = tile
    for k, source in enumerate(sources):
        if not stands_in(fabric, x, y, source):
            raise BadConfig((*path, k))
        kind = "" if source is None else source[0]
        # Wires keep their track, and out pads take no pads.
        if path[2] == 4 and kind == "wire" and source[2] != k or path[2] == 5 and kind == "pad":
            raise BadConfig((*path, k))


def _check_tile(fabric, tile, value, path):
    """Look at what should be a tile config."""
    if not isinstance(value, tuple) or len(value) != TILE_MEMBERS:
        raise BadConfig(path)
    truth, used, start, inputs, wires, outs = value
    if not is_value(truth, 1 << fabric[3]):
        raise BadConfig((*path, 0))
    if not is_below(used, 2):
        raise BadConfig((*path, 1))
    if not is_below(start, 2):
        raise BadConfig((*path, 2))
    _check_sources(fabric, tile, inputs, fabric[3], (*path, 3))
    if not isinstance(wires, tuple) or len(wires) != 4:
        raise BadConfig((*path, 4))
    x, y = tile
    for side in range(4):
        many = 0 if neighbour(fabric, x, y, side) is None else fabric[2]
        _check_sources(fabric, tile, wires[side], many, (*path, 4, side))
    _check_sources(fabric, tile, outs, fabric[4] if is_border(fabric, x, y) else 0, (*path, 5))


def check_config(value):
    """Raise BadConfig with the path of the first wrong part, if a value is no config."""
    if not isinstance(value, tuple) or len(value) != MEMBERS:
        raise BadConfig(())
    fabric, ins, outs, tiles = value
    if not is_fabric(fabric):
        raise BadConfig((0,))
    _check_places(fabric, ins, 1)
    _check_places(fabric, outs, 2)
    if not isinstance(tiles, tuple) or len(tiles) != fabric[0] * fabric[1]:
        raise BadConfig((3,))
    for n, (tile, told) in enumerate(zip(tiles_of(fabric), tiles)):
        _check_tile(fabric, tile, told, (3, n))


def _tile_config(fabric, x, y, cell, sources, outs):
    """A tile config of a cell with its inputs, of dicts from wires to their sources, and from out pads to theirs."""
    wires = []
    for side in range(4):
        tracks = 0 if neighbour(fabric, x, y, side) is None else fabric[2]
        wires.append(tuple([sources.get((x, y, side, track)) for track in range(tracks)]))
    pads = fabric[4] if is_border(fabric, x, y) else 0
    return (*cell, tuple(wires), tuple([outs.get((x, y, pad)) for pad in range(pads)]))


def _no_cell(fabric):
    """What a tile config has at first, if its tile has no cell."""
    return 0, 0, 0, tuple([None for _ in range(fabric[3])])


def empty_config(fabric):
    """The config without in and out bits in which nothing is chosen."""
    tiles = [_tile_config(fabric, x, y, _no_cell(fabric), {}, {}) for x, y in tiles_of(fabric)]
    return tuple(fabric), (), (), tuple(tiles)


def _cell_config(fabric, cell, sources):
    """What a tile config has at first, if its tile has a cell whose inputs take some sources."""
    inputs, truth, used, start = cell
    k = fabric[3]
    found = 0
    # Inputs that are not there change nothing, so the truth comes again and again.
    for place in range(0, 1 << k, 1 << len(inputs)):
        found |= truth << place
    return found, used, start, (*sources, *[None for _ in range(k - len(inputs))])


def config_of(fabric, cells, laid):
    """The config of a cell net and of what is laid rightly of it."""
    tiles, ins, outs, wires, inputs = laid
    placed = {tile: _cell_config(fabric, cell, taken) for tile, cell, taken in zip(tiles, cells[2], inputs)}
    sources = {wire: source for wire, source in wires}
    taken_by = {(x, y, pad): source for x, y, pad, source in outs}
    found = []
    for x, y in tiles_of(fabric):
        found.append(_tile_config(fabric, x, y, placed.get((x, y), _no_cell(fabric)), sources, taken_by))
    return tuple(fabric), tuple(ins), tuple([(x, y, pad) for x, y, pad, _ in outs]), tuple(found)


def _tile_told(config, x, y):
    """The tile config of a tile."""
    return config[3][y * config[0][0] + x]


def _thing_at(config, x, y, source):
    """The thing of a ring that a source at a tile may be, or None."""
    if source == CELL:
        return None if _tile_told(config, x, y)[1] else ("cell", x, y)
    if source is None or source[0] == "pad":
        return None
    return ("wire", *wire_in(config[0], x, y, source[1], source[2]))


def _things_behind(config, thing):
    """The list of the things of rings that a thing has as sources."""
    told = _tile_told(config, thing[1], thing[2])
    sources = told[3] if thing[0] == "cell" else [told[4][thing[3]][thing[4]]]
    found = [_thing_at(config, thing[1], thing[2], source) for source in sources]
    return [other for other in found if other is not None]


def _things_of(config):
    """The list of all things of rings that have sources."""
    found = []
    for (x, y), told in zip(tiles_of(config[0]), config[3]):
        if not told[1]:
            found.append(("cell", x, y))
        for side in range(4):
            for track, source in enumerate(told[4][side]):
                if source is not None:
                    found.append(("wire", x, y, side, track))
    return found


def _ring_from(config, begin, done):
    """A ring to which the sources of a thing lead, or None; the things from which none is come to become done."""
    way = [begin]
    places = {begin: 0}
    todo = [_things_behind(config, begin)]
    while way:
        if not todo[-1]:
            todo.pop()
            thing = way.pop()
            del places[thing]
            done[thing] = True
            continue
        late = todo[-1].pop()
        if late in places:
            return tuple(way[places[late]:])
        if late not in done:
            places[late] = len(way)
            way.append(late)
            todo.append(_things_behind(config, late))
    return None


def ring_of(config):
    """None if a config is still, and otherwise a ring of it."""
    done = {}
    for thing in _things_of(config):
        if thing not in done:
            ring = _ring_from(config, thing, done)
            if ring is not None:
                return ring
    return None


def _is_thing(config, value):
    """Whether a value, which may be anything, is a thing of which rings of a config may be."""
    if not isinstance(value, tuple) or not value or not isinstance(value[0], str):
        return False
    if value[0] == "wire":
        return is_wire(config[0], value[1:])
    if value[0] != "cell" or len(value) != 3:
        return False
    if not is_below(value[1], config[0][0]) or not is_below(value[2], config[0][1]):
        return False
    return _tile_told(config, value[1], value[2])[1] == 0


def judge_ring(config, value):
    """None if a value, which may be anything, is a ring of a config, and otherwise its first fault."""
    if not isinstance(value, tuple) or not value or not all([_is_thing(config, thing) for thing in value]):
        return ("form",)
    if len({thing: True for thing in value}) < len(value):
        return ("form",)
    for n, thing in enumerate(value):
        if value[(n + 1) % len(value)] not in _things_behind(config, thing):
            return ("step", n)
    return None
