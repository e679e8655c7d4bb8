"""What is laid on a fabric: whether it is right, what its wires carry, and what it does."""

from bitloom.cells import cell_outputs
from bitloom.errors import BadLaid
from bitloom.fabric import is_wire, pads_of, tiles_of
from bitloom.names import is_number
from bitloom.wiring import LaidWires, is_source_at, may_take

SOURCE_LENGTHS = {"cell": 1, "pad": 2, "wire": 3}


def _are_numbers(value, many):
    """Whether a value is a tuple of so many integers."""
    return isinstance(value, tuple) and len(value) == many and all([is_number(part) for part in value])


def _is_source(value):
    """Whether a value has the form of a source."""
    if not isinstance(value, tuple) or not value or not isinstance(value[0], str):
        return False
    return len(value) == SOURCE_LENGTHS.get(value[0]) and _are_numbers(value[1:], len(value) - 1)


def _is_out(value):
    """Whether a value has the form of what is told of an out pad."""
    return isinstance(value, tuple) and len(value) == 4 and _are_numbers(value[:3], 3) and _is_source(value[3])


def _is_wire_pair(value):
    """Whether a value has the form of a wire with its source."""
    return isinstance(value, tuple) and len(value) == 2 and _are_numbers(value[0], 4) and _is_source(value[1])


def _are_inputs(value, many):
    """Whether a value is a tuple of so many sources."""
    return isinstance(value, tuple) and len(value) == many and all([_is_source(part) for part in value])


def _has_form(cells, value):
    """Whether a value has the form of something laid of a cell net."""
    _, many, told, outs = cells
    if not isinstance(value, tuple) or len(value) != 5 or not all([isinstance(part, tuple) for part in value]):
        return False
    tiles, ins, out_places, wires, inputs = value
    if [len(tiles), len(ins), len(out_places), len(inputs)] != [len(told), many, len(outs), len(told)]:
        return False
    return (
        all([_are_numbers(tile, 2) for tile in tiles])
        and all([_are_numbers(place, 3) for place in ins])
        and all([_is_out(place) for place in out_places])
        and all([_is_wire_pair(pair) for pair in wires])
        and all([_are_inputs(taken, len(cell[0])) for taken, cell in zip(inputs, told)])
    )


def _first_amiss(members, allowed):
    """The number of the first member that is not allowed, or stands earlier; None if there is none."""
    left = {member: True for member in allowed}
    for number, member in enumerate(members):
        if member not in left:
            return number
        del left[member]
    return None


def _first_wrong_wire(fabric, wires):
    """The number of the first pair whose wire may not stand there, or not take its source, or None."""
    for number, (wire, source) in enumerate(wires):
        if not is_wire(fabric, wire) or number and wire <= wires[number - 1][0]:
            return number
        if not is_source_at(fabric, wire[0], wire[1], source) or not may_take(wire, source):
            return number
    return None


def _first_empty(lines, wires):
    """The number of the first pair whose source carries nothing, or None."""
    for number, (wire, source) in enumerate(wires):
        if lines.carries(wire[0], wire[1], source) is None:
            return number
    return None


def _first_wrong_cell(fabric, cells, value, lines):
    """The number of the first cell with an input that takes what it may not, or not its signal, or None."""
    for c, cell in enumerate(cells[2]):
        x, y = value[0][c]
        for signal, source in zip(cell[0], value[4][c]):
            if not is_source_at(fabric, x, y, source) or lines.carries(x, y, source) != signal:
                return c
    return None


def _first_wrong_out(fabric, cells, value, lines):
    """The number of the first out that takes what it may not, or not its signal, or None."""
    for number, (x, y, _, source) in enumerate(value[2]):
        if source[0] == "pad" or not is_source_at(fabric, x, y, source):
            return number
        if lines.carries(x, y, source) != cells[3][number]:
            return number
    return None


def _refuse(word, number):
    """Raise BadLaid with a word, unless the number is None."""
    if number is not None:
        raise BadLaid(word, number)


def check_laid(fabric, cells, value):
    """Raise BadLaid with the first fault, if a value is not right as something laid of a cell net."""
    if not _has_form(cells, value):
        raise BadLaid("form", None)
    pads = pads_of(fabric)
    _refuse("tile", _first_amiss(value[0], tiles_of(fabric)))
    _refuse("in", _first_amiss(value[1], pads))
    _refuse("out", _first_amiss([place[:3] for place in value[2]], pads))
    _refuse("wire", _first_wrong_wire(fabric, value[3]))
    lines = LaidWires(fabric, cells, value)
    _refuse("empty", _first_empty(lines, value[3]))
    _refuse("input", _first_wrong_cell(fabric, cells, value, lines))
    _refuse("output", _first_wrong_out(fabric, cells, value, lines))


def carried(fabric, cells, laid):
    """The ascending list of the pairs of all wires that are laid and the signals that they carry."""
    lines = LaidWires(fabric, cells, laid)
    return [(wire, lines.carries(wire[0], wire[1], source)) for wire, source in laid[3]]


def laid_outputs(fabric, cells, laid, lots):
    """The list of the tuples of outputs of what is laid, by its wires, for a list of lots."""
    k, many, told, _ = cells
    lines = LaidWires(fabric, cells, laid)
    by_wires = []
    for c, (_, truth, used, start) in enumerate(told):
        by_wires.append((tuple([signal for signal, _ in lines.reached_by_inputs(c)]), truth, used, start))
    outs = tuple([signal for signal, _ in lines.reached_by_outs()])
    return cell_outputs((k, many, tuple(by_wires), outs), lots)
