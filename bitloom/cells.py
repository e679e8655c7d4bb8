"""Cell nets: whether a value is one, what they do, and the cell nets of table nets."""

from bitloom.errors import BadNet
from bitloom.names import is_below, is_count, is_number, is_value
from bitloom.packing import Packer
from bitloom.tables import folded, looked_up

LEAST_K = 2
MOST_K = 6


def _has_register(cell):
    """Whether a member of cells, which may be anything, counts as a cell with a register."""
    return isinstance(cell, tuple) and len(cell) == 4 and is_number(cell[2]) and cell[2] == 1


def _may_be_input(signal, c, many, registers):
    """Whether a value may be an input of cell c, registers telling of each cell whether it counts as one with one."""
    if not is_below(signal, many + len(registers)):
        return False
    return signal < many or registers[c] or signal < many + c or registers[signal - many]


def _check_cell(cell, c, value, registers):
    """Look at cell c of what should be a cell net."""
    k, many, _, _ = value
    if not isinstance(cell, tuple) or len(cell) != 4:
        raise BadNet((2, c))
    inputs, truth, used, start = cell
    if not isinstance(inputs, tuple) or len(inputs) > k:
        raise BadNet((2, c, 0))
    for j, signal in enumerate(inputs):
        if not _may_be_input(signal, c, many, registers) or signal in inputs[:j]:
            raise BadNet((2, c, 0, j))
    if not is_value(truth, 1 << len(inputs)):
        raise BadNet((2, c, 1))
    if not is_below(used, 2):
        raise BadNet((2, c, 2))
    if not is_below(start, 2):
        raise BadNet((2, c, 3))


def check_cells(value):
    """Raise BadNet with the path of the first wrong part, if a value is no cell net."""
    if not isinstance(value, tuple) or len(value) != 4:
        raise BadNet(())
    k, many, cells, outs = value
    if not is_number(k) or not LEAST_K <= k <= MOST_K:
        raise BadNet((0,))
    if not is_count(many):
        raise BadNet((1,))
    if not isinstance(cells, tuple):
        raise BadNet((2,))
    registers = [_has_register(cell) for cell in cells]
    for c, cell in enumerate(cells):
        _check_cell(cell, c, value, registers)
    if not isinstance(outs, tuple):
        raise BadNet((3,))
    for j, signal in enumerate(outs):
        if not is_below(signal, many + len(cells)) or signal < many:
            raise BadNet((3, j))


def cells_of(net):
    """A cell net that runs as a table net does."""
    return Packer(net).packed()


def wanted(cells):
    """The ascending list of the wanted signals."""
    _, _, told, outs = cells
    return sorted({signal: True for signal in [*outs, *[taken for cell in told for taken in cell[0]]]})


def cell_outputs(cells, lots):
    """The list of the tuples of outputs for a list of lots."""
    _, many, told, outs = cells
    trees = [(many + c, cell[0], folded(cell[1], len(cell[0]))) for c, cell in enumerate(told)]
    plain = [tree for tree in trees if not told[tree[0] - many][2]]
    keeping = [tree for tree in trees if told[tree[0] - many][2]]
    state = [cell[3] for cell in told]
    found = []
    for lot in lots:
        # The cells without registers take their values behind those on which they hang.
        values = [*lot, *state]
        for signal, inputs, tree in plain:
            values[signal] = looked_up(tree, values, inputs)
        found.append(tuple([values[signal] for signal in outs]))
        for signal, inputs, tree in keeping:
            state[signal - many] = looked_up(tree, values, inputs)
    return found
