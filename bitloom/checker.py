"""Whether a design is let by: its faults, and its rings."""

from bitloom.errors import BadDesign
from bitloom.hanging import let_by, needs_of
from bitloom.looking import looked_through


def fault_of(design):
    """The first fault of a design, a triple (word, where, path), or None."""
    try:
        looked_through(design)
    except BadDesign as fault:
        return fault.word, fault.where, fault.path
    return None


def check_design(design):
    """Raise BadDesign with the first fault of a design, or BadRing with any ring, if it is not let by."""
    let_by(design)


def _is_ring(needs, value):
    """Whether a tuple of strings is a ring, needs telling which name needs which."""
    earlier = {}
    for name in value:
        if name not in needs or name in earlier:
            return False
        earlier[name] = True
    return all([value[(k + 1) % len(value)] in needs[value[k]] for k in range(len(value))])


def judge_ring(design, value):
    """Whether a value, which may be anything, is a ring of a design without fault."""
    if not isinstance(value, tuple) or not value or not all(isinstance(name, str) for name in value):
        return False
    return _is_ring(needs_of(looked_through(design)), value)
