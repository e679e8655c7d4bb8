"""The bits of configs, and the texts of bits."""

from bitloom.bitrows import (
    MIDDLE, NUMBER_DIGITS, ROW_BITS, bits_in, check_place, count_told, digits_of, form_fault, has_right_check,
    is_middle, middle_of, row_check, row_text, rows_for,
)
from bitloom.bitstream import BitReader, BitWriter
from bitloom.errors import BadText
from bitloom.fabric import MOST_PADS, MOST_TRACKS, MOST_WIDE, is_border, pads_of, tiles_of
from bitloom.menus import input_menu, out_menu, sides_of, wire_menu

WIDE_BITS = 4
TRACK_BITS = 6
SMALL_BITS = 3
COUNT_BITS = 9
LEAST_K = 2
K_MANY = 5


class TileMenus:
    """The menus of a tile; places that are alike have the same one."""

    def __init__(self, fabric, x, y):
        self.of_input = input_menu(fabric, x, y)
        self.of_tracks = [wire_menu(fabric, x, y, track) for track in range(fabric[2])]
        self.of_out = out_menu(fabric, x, y)
        self.pads = fabric[4] if is_border(fabric, x, y) else 0
        self.sides = sides_of(fabric, x, y)


def _write_tile(writer, menus, told, k):
    """Write a tile config."""
    truth, used, start, inputs, wires, outs = told
    writer.put(truth, 1 << k)
    writer.put(used, 1)
    writer.put(start, 1)
    for source in inputs:
        writer.choose(menus.of_input, source)
    for side in menus.sides:
        for menu, source in zip(menus.of_tracks, wires[side]):
            writer.choose(menu, source)
    for source in outs:
        writer.choose(menus.of_out, source)


def config_bits(config):
    """The tuple of the bits of a config."""
    fabric, ins, outs, tiles = config
    wide, high, tracks, k, pads = fabric
    writer = BitWriter()
    writer.put(wide - 1, WIDE_BITS)
    writer.put(high - 1, WIDE_BITS)
    writer.put(tracks - 1, TRACK_BITS)
    writer.put(k - LEAST_K, SMALL_BITS)
    writer.put(pads - 1, SMALL_BITS)
    writer.put(len(ins), COUNT_BITS)
    writer.put(len(outs), COUNT_BITS)
    places = pads_of(fabric)
    for place in [*ins, *outs]:
        writer.choose(places, place)
    for (x, y), told in zip(tiles_of(fabric), tiles):
        _write_tile(writer, TileMenus(fabric, x, y), told, k)
    return tuple(writer.written)


def _read_tile(reader, menus, fabric):
    """Read a tile config."""
    k = fabric[3]
    truth = reader.number(1 << k, 1 << (1 << k))
    used = reader.number(1, 2)
    start = reader.number(1, 2)
    inputs = tuple([reader.choice(menus.of_input) for _ in range(k)])
    wires = []
    for side in range(4):
        lanes = menus.of_tracks if side in menus.sides else []
        wires.append(tuple([reader.choice(menu) for menu in lanes]))
    outs = tuple([reader.choice(menus.of_out) for _ in range(menus.pads)])
    return truth, used, start, inputs, tuple(wires), outs


def _read_places(reader, places, many):
    """Read so many unlike places of pads."""
    met = {}
    return tuple([reader.unlike_choice(places, met) for _ in range(many)])


def bits_config(bits):
    """The config that bits tell; raise BadBits with their first wrong place."""
    reader = BitReader(bits)
    wide = 1 + reader.number(WIDE_BITS, MOST_WIDE)
    high = 1 + reader.number(WIDE_BITS, MOST_WIDE)
    tracks = 1 + reader.number(TRACK_BITS, MOST_TRACKS)
    k = LEAST_K + reader.number(SMALL_BITS, K_MANY)
    pads = 1 + reader.number(SMALL_BITS, MOST_PADS)
    fabric = (wide, high, tracks, k, pads)
    places = pads_of(fabric)
    many_ins = reader.number(COUNT_BITS, len(places) + 1)
    many_outs = reader.number(COUNT_BITS, len(places) + 1)
    ins = _read_places(reader, places, many_ins)
    outs = _read_places(reader, places, many_outs)
    tiles = [_read_tile(reader, TileMenus(fabric, x, y), fabric) for x, y in tiles_of(fabric)]
    reader.end()
    return fabric, ins, outs, tuple(tiles)


def check_of(digits):
    """The check of a string of digits."""
    return row_check(digits)


def bits_text(bits):
    """The text of bits."""
    rows = [row_text(0, f"{len(bits):08x}")]
    for number in range(1, 1 + rows_for(len(bits))):
        rows.append(row_text(number, digits_of(bits[(number - 1) * ROW_BITS:number * ROW_BITS])))
    return "".join(row + "\n" for row in rows)


def _place_in_row(number, row, many):
    """The first wrong place of a row with a number that is of the form, so many bits being told; None if none is."""
    if row[:NUMBER_DIGITS] != f"{number:04x}" or number > rows_for(many):
        return 0
    middle = middle_of(row)
    is_right = count_told(middle) is not None if number == 0 else is_middle(middle, many, number)
    if not is_right:
        return MIDDLE
    return None if has_right_check(row) else check_place(row)


def read_bits(text):
    """The bits of a text; raise BadText with the pair of the first wrong row and the place in it."""
    rows = text.split("\n")
    last = rows.pop()
    found = []
    many = 0
    for number, row in enumerate([*rows, last] if last else rows):
        place = form_fault(row)
        if place is None and number == len(rows):
            place = len(row)
        if place is None:
            place = _place_in_row(number, row, many)
        if place is not None:
            raise BadText((number, place))
        if number == 0:
            many = count_told(middle_of(row))
        else:
            found.extend(bits_in(middle_of(row), many, number))
    if len(rows) <= rows_for(many):
        raise BadText((len(rows), 0))
    return tuple(found)
