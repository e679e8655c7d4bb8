"""Flat designs: whether a value is one, the widths of its rows, and which rows are needed."""

from bitloom.errors import BadFlat
from bitloom.names import is_below, is_count, is_value, is_width
from bitloom.rowforms import ROW_MEMBERS, row_width, rows_in


def _check_tuple(value, many, path):
    """Raise BadFlat with a path if a value is no tuple of so many members."""
    if not isinstance(value, tuple) or len(value) != many:
        raise BadFlat(path)


def _check_name(name, earlier, path):
    """Raise BadFlat with a path if a name is none, or one of a dict of earlier ones, to which it is added."""
    if not isinstance(name, str) or not name or name in earlier:
        raise BadFlat(path)
    earlier[name] = True


def _check_ins(ins):
    earlier = {}
    for k, pair in enumerate(ins):
        _check_tuple(pair, 2, (0, k))
        _check_name(pair[0], earlier, (0, k, 0))
        if not is_width(pair[1]):
            raise BadFlat((0, k, 1))


def _check_regs(regs):
    """Look at registers without their last members."""
    earlier = {}
    for k, told in enumerate(regs):
        _check_tuple(told, 4, (2, k))
        _check_name(told[0], earlier, (2, k, 0))
        if not is_width(told[1]):
            raise BadFlat((2, k, 1))
        if not is_value(told[2], told[1]):
            raise BadFlat((2, k, 2))


def _is_member(kind, member, row, limits):
    """Whether a member of a row is of its kind, limits being how many ins, regs and earlier rows there are."""
    if kind == "width":
        return is_width(member)
    if kind == "value":
        return is_value(member, row[1])
    if kind == "low":
        return is_count(member)
    return is_below(member, limits[kind])


def _check_row(row, path, limits):
    """Look at a row and its members, but not at whether widths fit."""
    if not isinstance(row, tuple) or not row or not isinstance(row[0], str) or row[0] not in ROW_MEMBERS:
        raise BadFlat(path)
    kinds = ROW_MEMBERS[row[0]]
    _check_tuple(row, 1 + len(kinds), path)
    for k, kind in enumerate(kinds, start=1):
        if not _is_member(kind, row[k], row, limits):
            raise BadFlat(path + (k,))


def _checked_widths(flat):
    """Look at the rows of a flat design whose ins and regs are right, and return their widths."""
    ins, _, regs, rows = flat
    widths = []
    for number, row in enumerate(rows):
        _check_row(row, (3, number), {"in": len(ins), "reg": len(regs), "row": number})
        width = row_width(row, ins, regs, widths)
        if width is None:
            raise BadFlat((3, number))
        widths.append(width)
    return widths


def _check_outs(outs, many):
    """Look at outs of a flat design with many rows."""
    earlier = {}
    for k, pair in enumerate(outs):
        _check_tuple(pair, 2, (1, k))
        _check_name(pair[0], earlier, (1, k, 0))
        if not is_below(pair[1], many):
            raise BadFlat((1, k, 1))


def check_flat(value):
    """Raise BadFlat with the path of the first wrong part, if a value is no flat design."""
    _check_tuple(value, 4, ())
    for k, part in enumerate(value):
        if not isinstance(part, tuple):
            raise BadFlat((k,))
    ins, outs, regs, _ = value
    _check_ins(ins)
    _check_regs(regs)
    widths = _checked_widths(value)
    _check_outs(outs, len(widths))
    for k, told in enumerate(regs):
        if not is_below(told[3], len(widths)) or widths[told[3]] != told[1]:
            raise BadFlat((2, k, 3))


def widths_of(flat):
    """The list of the widths of the rows."""
    ins, _, regs, rows = flat
    widths = []
    for row in rows:
        widths.append(row_width(row, ins, regs, widths))
    return widths


def needed_rows(flat):
    """The ascending list of the numbers of the rows that outs and registers need."""
    _, outs, regs, rows = flat
    needed = {number: True for _, number in outs}
    for told in regs:
        needed[told[3]] = True
    # A row needs earlier ones only, so those behind it have all been asked when its turn comes.
    for number in reversed(range(len(rows))):
        if number in needed:
            for other in rows_in(rows[number]):
                needed[other] = True
    return sorted(needed)
