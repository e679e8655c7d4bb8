"""Truths that keep clauses searched for, and clauses learned from each clash on the way."""

from bitloom.deciding import Chooser

PATIENCE = 64
MOST_LEARNED = 1000
GOOD = 3


def _steps_to_rest(number):
    """How patient the search with a number is: 1, 1, 2, 1, 1, 2, 4, 1 and so on."""
    while True:
        power = (number + 1).bit_length() - 1
        if number + 1 == 1 << power:
            return 1 << (power - 1)
        number -= (1 << power) - 1


class Search:
    """Clauses over letters from 0 on, and the literals that are true: 2 * letter, or 2 * letter + 1 for the opposite.

    A truth of a literal is 1, -1 or, if it is not settled, 0. A clause waits for one of its first two literals to
    become false. Clauses have numbers; of each that is learned it is kept from which ones it follows.
    """

    def __init__(self, many):
        self.truths = [0 for _ in range(2 * many)]
        self.waiting = [[] for _ in range(2 * many)]
        self.reasons = [None for _ in range(many)]
        self.levels = [0 for _ in range(many)]
        self.row = []
        self.begins = []
        self.done = 0
        self.active = []
        self.whole = []
        self.sources = []
        self.goodness = {}
        self.chooser = Chooser(many)

    def _hold(self, literal, reason):
        """Make a literal true, for the clause with a number or None."""
        self.truths[literal] = 1
        self.truths[literal ^ 1] = -1
        self.reasons[literal >> 1] = reason
        self.levels[literal >> 1] = len(self.begins)
        self.row.append(literal)

    def _add(self, literals, sources):
        """Put a clause that follows from others to the rest; return its number."""
        number = len(self.active)
        self.active.append(list(literals))
        self.whole.append(tuple(literals))
        self.sources.append(sources)
        if len(literals) > 1:
            for literal in literals[:2]:
                self.waiting[literal].append(number)
        return number

    def put(self, literals):
        """Put a clause that is given; return its number if it clashes at once, and otherwise None."""
        number = self._add(literals, [])
        # Longer ones are looked at when what is true by now spreads.
        if len(literals) > 1:
            return None
        if not literals or self.truths[literals[0]] < 0:
            return number
        if self.truths[literals[0]] == 0:
            self._hold(literals[0], number)
        return None

    def _spread_from(self, false):
        """Let the clauses go on that waited for a literal; return the number of one that clashes, or None."""
        truths, active, waiting = self.truths, self.active, self.waiting
        numbers = waiting[false]
        kept = []
        waiting[false] = kept
        clash = None
        for number in numbers:
            clause = active[number]
            if not clause:
                continue
            if clause[0] == false:
                clause[0], clause[1] = clause[1], false
            first = clause[0]
            if clash is not None or truths[first] > 0:
                kept.append(number)
                continue
            for place in range(2, len(clause)):
                other = clause[place]
                if truths[other] >= 0:
                    clause[1], clause[place] = other, false
                    waiting[other].append(number)
                    break
            else:
                kept.append(number)
                if truths[first] == 0:
                    self._hold(first, number)
                else:
                    clash = number
        return clash

    def spread(self):
        """Let all that is true spread; return the number of a clause that clashes, or None."""
        while self.done < len(self.row):
            clash = self._spread_from(self.row[self.done] ^ 1)
            self.done += 1
            if clash is not None:
                return clash
        return None

    def back_to(self, level):
        """Take back all truths of greater levels."""
        begin = self.begins[level]
        for literal in self.row[begin:]:
            self.truths[literal] = 0
            self.truths[literal ^ 1] = 0
            self.chooser.let_go(literal)
        del self.row[begin:]
        del self.begins[level:]
        self.done = begin

    def _is_spare(self, literal, met):
        """Whether a false literal is so by literals that were met, or that are false for good."""
        reason = self.reasons[literal >> 1]
        if reason is None:
            return False
        others = [other >> 1 for other in self.whole[reason]]
        return all([letter == literal >> 1 or letter in met or self.levels[letter] == 0 for letter in others])

    def learned(self, clash):
        """The pair of the literals of a clause that a clash teaches, and of the numbers of those behind it."""
        level = len(self.begins)
        met = {}
        found = []
        used = [clash]
        left = 0
        place = len(self.row)
        while True:
            for literal in self.whole[used[-1]]:
                letter = literal >> 1
                if letter in met:
                    continue
                met[letter] = True
                if self.levels[letter] == level:
                    left += 1
                elif self.levels[letter] > 0:
                    found.append(literal)
            # The last one of this level that was met is exchanged for its reason, until there is one alone.
            place -= 1
            while self.row[place] >> 1 not in met:
                place -= 1
            left -= 1
            if left == 0:
                break
            used.append(self.reasons[self.row[place] >> 1])
        self.chooser.weigh(list(met))
        spare = {literal: True for literal in found if self._is_spare(literal, met)}
        used.extend([self.reasons[literal >> 1] for literal in spare])
        return [self.row[place] ^ 1, *[literal for literal in found if literal not in spare]], used

    def learn(self, clash):
        """Put the clause that a clash teaches, going back as far as it still settles something."""
        literals, used = self.learned(clash)
        levels = [self.levels[literal >> 1] for literal in literals]
        back = max(levels[1:], default=0)
        if back:
            second = levels.index(back, 1)
            literals[1], literals[second] = literals[second], literals[1]
        self.goodness[len(self.active)] = len({level: True for level in levels})
        self.back_to(back)
        self._hold(literals[0], self._add(literals, used))

    def forget(self):
        """Let the worse half of the learned clauses wait for nothing any more, but for reasons."""
        held = {self.reasons[literal >> 1]: True for literal in self.row}
        worse = [(-many, number) for number, many in self.goodness.items() if many > GOOD and number not in held]
        for _, number in sorted(worse)[:len(worse) // 2]:
            self.active[number] = []
            del self.goodness[number]

    def _seeks(self, patience):
        """Go on until all letters have truths, a clash comes for good, or patience ends; return (whether, clash)."""
        while True:
            clash = self.spread()
            if clash is not None:
                if not self.begins:
                    return True, clash
                self.learn(clash)
                patience -= 1
                continue
            if patience <= 0:
                return False, None
            literal = self.chooser.choose(self.truths)
            if literal is None:
                return True, None
            self.begins.append(len(self.row))
            self._hold(literal, None)

    def outcome(self):
        """The number of a clause that clashes whatever the truths are, None if truths for all letters keep all."""
        rounds = 0
        limit = MOST_LEARNED
        while True:
            rounds += 1
            is_done, clash = self._seeks(PATIENCE * _steps_to_rest(rounds))
            if is_done:
                return clash
            if self.begins:
                self.back_to(0)
            if len(self.goodness) > limit:
                self.forget()
                limit += MOST_LEARNED // 10

    def needed_for(self, clash):
        """The ascending list of the numbers of the clauses that are needed for a clash for good."""
        needed = {}
        todo = [clash]
        while todo:
            number = todo.pop()
            if number in needed:
                continue
            needed[number] = True
            todo.extend(self.sources[number])
            # What is false for good is so by clauses of its own.
            zeros = [literal >> 1 for literal in self.whole[number] if self.levels[literal >> 1] == 0]
            todo.extend([self.reasons[letter] for letter in zeros if self.reasons[letter] is not None])
        return sorted(needed)
