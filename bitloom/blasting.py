"""Graphs of single bits made of flat designs, row by row."""

from bitloom.building import Maker
from bitloom.flats import widths_of
from bitloom.rowforms import rows_in
from bitloom.values import bits_of

BOUNDS_BY_WIDTH = {"and": 1, "or": 1, "xor": 3, "mux": 3, "add": 12, "sub": 12}
BOUNDS_BY_FIRST = {"eq": 4, "lt": 12, "all": 1, "any": 1, "odd": 3}


def _row_bound(row, width, widths):
    """How many and nodes a row of a width may need, by the widths of the rows whose numbers it has."""
    word = row[0]
    if word in BOUNDS_BY_WIDTH:
        return BOUNDS_BY_WIDTH[word] * width
    if word in BOUNDS_BY_FIRST:
        return BOUNDS_BY_FIRST[word] * widths[0]
    if word == "mul":
        return 13 * width * width
    return 4 * widths[0] * widths[1] if word in ("shl", "shr", "pick") else 0


def size_bound(flat):
    """The size bound of a flat design."""
    widths = widths_of(flat)
    return sum([
        _row_bound(row, width, [widths[number] for number in rows_in(row)]) for row, width in zip(flat[3], widths)
    ])


def in_widths(flat):
    """The list of the widths of the ins."""
    return [width for _, width in flat[0]]


def out_widths(flat):
    """The list of the widths of the outs."""
    widths = widths_of(flat)
    return [widths[number] for _, number in flat[1]]


def _turned(bits):
    """The list of the turned literals of some."""
    return [literal ^ 1 for literal in bits]


def _sum(maker, one, other, carry):
    """The list of the literals of the sum of two numbers and of a bit that is carried into it."""
    found = []
    for a, b in zip(one, other):
        half = maker.unlike(a, b)
        found.append(maker.unlike(half, carry))
        # What is carried out of the last bit is lost.
        if len(found) < len(one):
            carry = maker.either(maker.both(a, b), maker.both(half, carry))
    return found


def _not_bits(maker, row, parts):
    return _turned(parts[0])


def _all_bits(maker, row, parts):
    return [maker.every(parts[0])]


def _any_bits(maker, row, parts):
    return [maker.every(_turned(parts[0])) ^ 1]


def _odd_bits(maker, row, parts):
    return [maker.odd(parts[0])]


def _and_bits(maker, row, parts):
    return [maker.both(a, b) for a, b in zip(parts[0], parts[1])]


def _or_bits(maker, row, parts):
    return [maker.either(a, b) for a, b in zip(parts[0], parts[1])]


def _xor_bits(maker, row, parts):
    return [maker.unlike(a, b) for a, b in zip(parts[0], parts[1])]


def _add_bits(maker, row, parts):
    return _sum(maker, parts[0], parts[1], 0)


def _sub_bits(maker, row, parts):
    return _sum(maker, parts[0], _turned(parts[1]), 1)


def _mul_bits(maker, row, parts):
    one, other = parts
    found = [maker.both(a, other[0]) for a in one]
    for place in range(1, len(one)):
        put_up = [maker.both(a, other[place]) for a in one[:len(one) - place]]
        found[place:] = _sum(maker, found[place:], put_up, 0)
    return found


def _eq_bits(maker, row, parts):
    return [maker.every([maker.unlike(a, b) ^ 1 for a, b in zip(parts[0], parts[1])])]


def _lt_bits(maker, row, parts):
    lent = 0
    for a, b in zip(parts[0], parts[1]):
        lent = maker.either(maker.both(a ^ 1, b), maker.both(maker.unlike(a, b) ^ 1, lent))
    return [lent]


def _join_bits(maker, row, parts):
    return parts[1] + parts[0]


def _kept(maker, bits, places, many):
    """The literals of bits that are all lost if one of the places tells many or more."""
    is_kept = maker.every([literal ^ 1 for k, literal in enumerate(places) if 1 << k >= many])
    return [maker.both(literal, is_kept) for literal in bits]


def _shifted(maker, bits, places):
    """The literals of bits that are put down by as many places as tell the places, nought coming in."""
    found = list(bits)
    for k, literal in enumerate(places):
        by = 1 << k
        if by < len(bits):
            late = found[by:] + [0 for _ in range(by)]
            found = [maker.chosen(literal, a, b) for a, b in zip(late, found)]
    return _kept(maker, found, places, len(bits))


def _shl_bits(maker, row, parts):
    return _shifted(maker, parts[0][::-1], parts[1])[::-1]


def _shr_bits(maker, row, parts):
    return _shifted(maker, parts[0], parts[1])


def _pick_bits(maker, row, parts):
    bits, places = parts
    # Without enough places the bits beyond them are never picked.
    left = bits[:1 << len(places)]
    for literal in places:
        if len(left) > 1:
            evens, odds = left[::2], left[1::2] + [0]
            left = [maker.chosen(literal, a, b) for a, b in zip(odds, evens)]
    return _kept(maker, left, places, len(bits))


def _cut_bits(maker, row, parts):
    _, _, low, width = row
    return parts[0][low:low + width]


def _mux_bits(maker, row, parts):
    chooser = parts[0][0]
    return [maker.chosen(chooser, a, b) for a, b in zip(parts[1], parts[2])]


BITS_BY_WORD = {
    "not": _not_bits,
    "all": _all_bits,
    "any": _any_bits,
    "odd": _odd_bits,
    "and": _and_bits,
    "or": _or_bits,
    "xor": _xor_bits,
    "add": _add_bits,
    "sub": _sub_bits,
    "mul": _mul_bits,
    "eq": _eq_bits,
    "lt": _lt_bits,
    "join": _join_bits,
    "shl": _shl_bits,
    "shr": _shr_bits,
    "pick": _pick_bits,
    "cut": _cut_bits,
    "mux": _mux_bits,
}


def _literals_by_width(widths, first):
    """The list of lists of the literals of values of some widths, whose bits are nodes one behind another."""
    found = []
    for width in widths:
        found.append([2 * (first + k) for k in range(width)])
        first += width
    return found


def _rows_made(flat, maker, ins, regs):
    """The list of lists of the literals of all rows, those of the ins and of the registers being told."""
    rows = []
    for row in flat[3]:
        word = row[0]
        if word == "in":
            rows.append(ins[row[1]])
        elif word == "reg":
            rows.append(regs[row[1]])
        elif word == "word":
            rows.append(list(bits_of(row[1], row[2])))
        else:
            make = BITS_BY_WORD[word]
            rows.append(make(maker, row, [rows[number] for number in rows_in(row)]))
    return rows


def graph_by_rows(flat):
    """The pair of a graph of a flat design and of the tuple of the tuples of the literals of its rows."""
    _, outs, regs, _ = flat
    many_ins = sum(in_widths(flat))
    widths = [reg[1] for reg in regs]
    maker = Maker(1 + many_ins + sum(widths))
    ins = _literals_by_width(in_widths(flat), 1)
    rows = _rows_made(flat, maker, ins, _literals_by_width(widths, 1 + many_ins))
    pairs = []
    for _, width, start, number in regs:
        pairs.extend(list(zip(bits_of(width, start), rows[number])))
    told = tuple([literal for _, number in outs for literal in rows[number]])
    return (many_ins, tuple(pairs), tuple(maker.ands), told), tuple([tuple(row) for row in rows])


def graph_of(flat):
    """A graph of a flat design that has one name a thing."""
    return graph_by_rows(flat)[0]
