"""What the rows of flat designs come to, each as a function of the values of rows, of a lot and of a state."""

from bitloom.flats import widths_of


def _in_rule(row, widths):
    k = row[1]
    return lambda values, lot, state: lot[k]


def _reg_rule(row, widths):
    k = row[1]
    return lambda values, lot, state: state[k]


def _word_rule(row, widths):
    worth = row[2]
    return lambda values, lot, state: worth


def _not_rule(row, widths):
    a = row[1]
    full = (1 << widths[a]) - 1
    return lambda values, lot, state: full - values[a]


def _all_rule(row, widths):
    a = row[1]
    full = (1 << widths[a]) - 1
    return lambda values, lot, state: 1 if values[a] == full else 0


def _any_rule(row, widths):
    a = row[1]
    return lambda values, lot, state: 1 if values[a] else 0


def odd_bits(value):
    """1 if the number of a value's bits that are 1 is odd, and otherwise 0."""
    for shift in (32, 16, 8, 4, 2, 1):
        value = value ^ value >> shift
    return value & 1


def _odd_rule(row, widths):
    a = row[1]
    return lambda values, lot, state: odd_bits(values[a])


def _and_rule(row, widths):
    a, b = row[1], row[2]
    return lambda values, lot, state: values[a] & values[b]


def _or_rule(row, widths):
    a, b = row[1], row[2]
    return lambda values, lot, state: values[a] | values[b]


def _xor_rule(row, widths):
    a, b = row[1], row[2]
    return lambda values, lot, state: values[a] ^ values[b]


def _add_rule(row, widths):
    a, b = row[1], row[2]
    full = (1 << widths[a]) - 1
    return lambda values, lot, state: (values[a] + values[b]) & full


def _sub_rule(row, widths):
    a, b = row[1], row[2]
    full = (1 << widths[a]) - 1
    return lambda values, lot, state: (values[a] - values[b]) & full


def _mul_rule(row, widths):
    a, b = row[1], row[2]
    full = (1 << widths[a]) - 1
    return lambda values, lot, state: (values[a] * values[b]) & full


def _eq_rule(row, widths):
    a, b = row[1], row[2]
    return lambda values, lot, state: 1 if values[a] == values[b] else 0


def _lt_rule(row, widths):
    a, b = row[1], row[2]
    return lambda values, lot, state: 1 if values[a] < values[b] else 0


def _join_rule(row, widths):
    a, b = row[1], row[2]
    low = widths[b]
    return lambda values, lot, state: (values[a] << low) + values[b]


def _shl_rule(row, widths):
    a, i = row[1], row[2]
    width = widths[a]
    full = (1 << width) - 1
    # A shift by a great number would ask for as many bits; all is lost then.
    return lambda values, lot, state: (values[a] << values[i]) & full if values[i] < width else 0


def _shr_rule(row, widths):
    a, i = row[1], row[2]
    width = widths[a]
    return lambda values, lot, state: values[a] >> values[i] if values[i] < width else 0


def _pick_rule(row, widths):
    a, i = row[1], row[2]
    width = widths[a]
    return lambda values, lot, state: values[a] >> values[i] & 1 if values[i] < width else 0


def _cut_rule(row, widths):
    a, low = row[1], row[2]
    full = (1 << row[3]) - 1
    return lambda values, lot, state: values[a] >> low & full


def _mux_rule(row, widths):
    c, a, b = row[1], row[2], row[3]
    return lambda values, lot, state: values[a] if values[c] else values[b]


RULES_BY_WORD = {
    "in": _in_rule,
    "reg": _reg_rule,
    "word": _word_rule,
    "not": _not_rule,
    "all": _all_rule,
    "any": _any_rule,
    "odd": _odd_rule,
    "and": _and_rule,
    "or": _or_rule,
    "xor": _xor_rule,
    "add": _add_rule,
    "sub": _sub_rule,
    "mul": _mul_rule,
    "eq": _eq_rule,
    "lt": _lt_rule,
    "join": _join_rule,
    "shl": _shl_rule,
    "shr": _shr_rule,
    "pick": _pick_rule,
    "cut": _cut_rule,
    "mux": _mux_rule,
}


def rule_of(row, widths):
    """The rule of a row, by the widths of all rows: a function of the values of rows, of a lot and of a state."""
    make = RULES_BY_WORD[row[0]]
    return make(row, widths)


def rules_of(flat):
    """The list of the rules of all rows."""
    widths = widths_of(flat)
    return [rule_of(row, widths) for row in flat[3]]


def values_by(rules, lot, state):
    """The list of the values of all rows by their rules, at a lot and a state."""
    values = []
    for rule in rules:
        values.append(rule(values, lot, state))
    return values
