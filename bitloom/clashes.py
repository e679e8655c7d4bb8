"""Literals that spread through clauses until there is a clash or nothing more to do."""


class Spreader:
    """Clauses, each waiting for one of its first two literals to become false, and the literals that are true."""

    def __init__(self):
        self.true = {}
        self.row = []
        self.done = 0
        self.waiting = {}
        self.is_lost = False

    def put(self, clause):
        """Put a clause to the others; what is true by now stays so for good."""
        left = [literal for literal in clause if -literal not in self.true]
        if self.is_lost or any([literal in self.true for literal in left]):
            return
        if len(left) > 1:
            for literal in left[:2]:
                self.waiting.setdefault(literal, []).append(left)
        elif not left or not self.hold(left[0]) or not self.settle():
            self.is_lost = True

    def hold(self, literal):
        """Hold a literal true; return whether the opposite is not true."""
        if literal not in self.true:
            self.true[literal] = True
            self.row.append(literal)
        return -literal not in self.true

    def _moved_on(self, clause, literal):
        """Let a clause wait for another literal than one that is false; return whether there is one."""
        if clause[0] == literal:
            clause[0], clause[1] = clause[1], literal
        for place in range(2, len(clause)):
            other = clause[place]
            if -other not in self.true:
                clause[1], clause[place] = other, literal
                self.waiting.setdefault(other, []).append(clause)
                return True
        return False

    def settle(self):
        """Let what is true spread as far as it does; return whether no clash comes."""
        while self.done < len(self.row):
            literal = -self.row[self.done]
            self.done += 1
            clauses = self.waiting.pop(literal, [])
            kept = []
            is_right = True
            for clause in clauses:
                if not is_right or clause[0] in self.true or clause[1] in self.true:
                    kept.append(clause)
                elif not self._moved_on(clause, literal):
                    kept.append(clause)
                    is_right = self.hold(clause[0])
            self.waiting[literal] = kept
            if not is_right:
                return False
        return True

    def holds_all(self, literals):
        """Hold some literals true, and let them spread; return whether no clash comes."""
        return not self.is_lost and all([self.hold(literal) for literal in literals]) and self.settle()

    def lets_go(self, many):
        """Take back all but the first many of the literals that became true."""
        for literal in self.row[many:]:
            del self.true[literal]
        del self.row[many:]
        self.done = many

    def clashes_with(self, literals):
        """Whether some literals, held true, spread to a clash; they are let go again."""
        many = len(self.row)
        clashes = not self.holds_all(literals)
        self.lets_go(many)
        return clashes


def by_letters(literals):
    """The tuple of some clause literals of unlike letters, ascending by their letters."""
    pairs = sorted([(abs(literal), literal) for literal in literals])
    return tuple([literal for _, literal in pairs])


def spreader_of(clauses):
    """A Spreader with some clauses."""
    found = Spreader()
    for clause in clauses:
        found.put(clause)
    return found
