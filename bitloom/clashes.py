"""Literals that spread through clauses until there is a clash or nothing more to do."""


class Spreader:
    """Clauses, each waiting for one of its first two literals to become false, and the literals that are true."""

    def __init__(self):
        self.true = {}
        self.row = []
        self.done = 0
        self.waiting = {}
        self.is_lost = False

    def put(self, clause):
        """Put a clause to the others; what is true by now stays so for good."""
        left = [literal for literal in clause if -literal not in self.true]
        if self.is_lost or any([literal in self.true for literal in left]):
            return
        if len(left) > 1:
            for literal in left[:2]:
                self.waiting.setdefault(literal, []).append(left)
        elif not left or not self.hold(left[0]) or not self.settle():
            self.is_lost = True

    def hold(self, literal):
        """Hold a literal true; return whether the opposite is not true."""
        if literal not in self.true:
            self.true[literal] = True
            self.row.append(literal)
        return -literal not in self.true

    def _clash_behind(self, literal):
        """Let the clauses go on that waited for a literal, which is false; return whether one of them clashes."""
        true, waiting = self.true, self.waiting
        clauses = waiting.pop(literal, [])
        kept = []
        waiting[literal] = kept
        is_lost = False
        for clause in clauses:
            if clause[0] == literal:
                clause[0], clause[1] = clause[1], literal
            if is_lost or clause[0] in true:
                kept.append(clause)
                continue
            for place in range(2, len(clause)):
                other = clause[place]
                if -other not in true:
                    clause[1], clause[place] = other, literal
                    waiting.setdefault(other, []).append(clause)
                    break
            else:
                kept.append(clause)
                is_lost = not self.hold(clause[0])
        return is_lost

    def settle(self):
        """Let what is true spread as far as it does; return whether no clash comes."""
        while self.done < len(self.row):
            self.done += 1
            if self._clash_behind(-self.row[self.done - 1]):
                return False
        return True

    def holds_all(self, literals):
        """Hold some literals true, and let them spread; return whether no clash comes."""
        return not self.is_lost and all([self.hold(literal) for literal in literals]) and self.settle()

    def lets_go(self, many):
        """Take back all but the first many of the literals that became true."""
        for literal in self.row[many:]:
            del self.true[literal]
        del self.row[many:]
        self.done = many

    def clashes_with(self, literals):
        """Whether some literals, held true, spread to a clash; they are let go again."""
        many = len(self.row)
        clashes = not self.holds_all(literals)
        self.lets_go(many)
        return clashes


def by_letters(literals):
    """The tuple of some clause literals of unlike letters, ascending by their letters."""
    pairs = sorted([(abs(literal), literal) for literal in literals])
    return tuple([literal for _, literal in pairs])


def spreader_of(clauses):
    """A Spreader with some clauses."""
    found = Spreader()
    for clause in clauses:
        found.put(clause)
    return found
