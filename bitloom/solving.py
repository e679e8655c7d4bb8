"""Clauses solved: truths that keep them all, or a barring; and barrings judged."""

from bitloom.clashes import spreader_of
from bitloom.clauses import is_clause
from bitloom.searching import Search


def _told(letters, literals):
    """The clause of literals of a search."""
    found = []
    for literal in sorted(literals):
        letter = letters[literal >> 1]
        found.append(-letter if literal & 1 else letter)
    return tuple(found)


def solve(clauses):
    """The pair ("can", literals) with truths that keep all clauses, or ("never", barring)."""
    letters = sorted({abs(literal): True for clause in clauses for literal in clause})
    numbers = {letter: number for number, letter in enumerate(letters)}
    search = Search(len(letters))
    clash = None
    for clause in clauses:
        late = search.put([2 * numbers[abs(literal)] + (1 if literal < 0 else 0) for literal in clause])
        clash = late if clash is None else clash
    if clash is None:
        clash = search.outcome()
    if clash is None:
        return "can", _told(letters, search.row)
    steps = [number for number in search.needed_for(clash) if number >= len(clauses)]
    return "never", [*[_told(letters, search.whole[number]) for number in steps], ()]


def judge_barring(clauses, value):
    """None if a value, which may be anything, is a barring for clauses, and otherwise its first fault."""
    if not isinstance(value, (list, tuple)) or not value or not all([is_clause(clause) for clause in value]):
        return ("form",)
    spreader = spreader_of(clauses)
    for n, clause in enumerate(value):
        if not spreader.clashes_with([-literal for literal in clause]):
            return ("step", n)
        spreader.put(clause)
    return ("end",) if value[-1] != () else None
