"""The forms of what shows that graphs are alike, or that an out holds, whatever value should be one."""

from bitloom.clauses import is_clause
from bitloom.names import is_below


def is_row(value):
    """Whether a value is a list or a tuple."""
    return isinstance(value, (list, tuple))


def are_clauses(value):
    """Whether a value is a list or tuple of clauses, perhaps none."""
    return is_row(value) and all([is_clause(clause) for clause in value])


def are_bits(value, many):
    """Whether a value is a tuple of so many bits."""
    return isinstance(value, tuple) and len(value) == many and all([is_below(bit, 2) for bit in value])


def are_lots(value, many):
    """Whether a value is a list or tuple of lots of so many bits, at least one."""
    return is_row(value) and len(value) > 0 and all([are_bits(lot, many) for lot in value])


def are_states(value, many):
    """Whether a value is a list or tuple of unlike states of so many bits."""
    if not is_row(value) or not all([are_bits(state, many) for state in value]):
        return False
    return len({state: True for state in value}) == len(value)


def are_pairs(value, literals):
    """Whether a value is a list or tuple of pairs of literals below a number."""
    if not is_row(value):
        return False
    for pair in value:
        if not isinstance(pair, tuple) or len(pair) != 2:
            return False
        if not is_below(pair[0], literals) or not is_below(pair[1], literals):
            return False
    return True


def begins_with(value, word, many):
    """Whether a value is a tuple of so many members that begins with a word."""
    return isinstance(value, tuple) and len(value) == many and isinstance(value[0], str) and value[0] == word
