"""Clauses: whether a value is one, how literals spread through them, and whether truths keep them."""

from bitloom.clashes import by_letters, spreader_of
from bitloom.errors import BadClauses
from bitloom.names import is_number

MOST_LETTER = 1000000


def is_clause(value):
    """Whether a value, which may be anything, is a clause."""
    if not isinstance(value, tuple):
        return False
    last = 0
    for literal in value:
        if not is_number(literal) or not last < abs(literal) <= MOST_LETTER:
            return False
        last = abs(literal)
    return True


def check_clauses(value):
    """Raise BadClauses with a path, if a value is no list or tuple of clauses."""
    if not isinstance(value, (list, tuple)):
        raise BadClauses(())
    for n, clause in enumerate(value):
        if not is_clause(clause):
            raise BadClauses((n,))


def spread(clauses, literals):
    """The tuple of all literals that are true when some have spread through clauses, None if there is a clash."""
    spreader = spreader_of(clauses)
    if not spreader.holds_all(literals):
        return None
    return by_letters(spreader.row)


def follows(clauses, clause):
    """Whether a clause follows plainly from clauses."""
    return spreader_of(clauses).clashes_with([-literal for literal in clause])


def keeps(clauses, literals):
    """Whether literals, held true, make some literal of each clause true."""
    true = {literal: True for literal in literals}
    return all([any([literal in true for literal in clause]) for clause in clauses])
