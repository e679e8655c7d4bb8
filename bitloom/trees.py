"""Designs as trees of tuples: whether a value is one, and its parts by their paths."""

from bitloom.errors import BadTree
from bitloom.forms import MEMBERS, NOT_EMPTY, SEQUENCES, SHAPES, WORDS, members_of
from bitloom.names import is_count, is_name


def _begins_wrong(kind, part):
    """Whether a tuple does not begin with a word of its kind, or is not as long as this word tells."""
    if not part or part[0] not in WORDS[kind]:
        return True
    return len(part) != 1 + len(MEMBERS[part[0]])


def _is_wrong(kind, part):
    """Whether what should be a part of a kind is wrong itself."""
    if kind == "name":
        return not is_name(part)
    if kind == "integer":
        return not is_count(part)
    if not isinstance(part, tuple):
        return True
    if kind in SEQUENCES:
        return kind in NOT_EMPTY and not part
    if kind in WORDS:
        return _begins_wrong(kind, part)
    return len(part) != len(SHAPES[kind])


def _inner(kind, part, path):
    """The triples (kind, part, path) of the members of a part, the last one first."""
    return [(inside, part[k], path + (k,)) for k, inside in members_of(kind, part)[::-1]]


def check_tree(value):
    """Raise BadTree with the path of the first wrong part, if a value is no design."""
    todo = [("design", value, ())]
    while todo:
        kind, part, path = todo.pop()
        if _is_wrong(kind, part):
            raise BadTree(path)
        todo.extend(_inner(kind, part, path))


def part_at(design, path):
    """The part of a design at a path."""
    part = design
    for place in path:
        part = part[place]
    return part


def paths_of(design, word):
    """The ascending list of the paths of all parts of a design that begin with a word."""
    found = []
    todo = [("design", design, ())]
    while todo:
        kind, part, path = todo.pop()
        if kind in WORDS and part[0] == word:
            found.append(path)
        todo.extend(_inner(kind, part, path))
    return found
