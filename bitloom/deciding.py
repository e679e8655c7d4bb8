"""Which letter is chosen next, and which way, where nothing spreads any more."""

from heapq import heapify, heappop, heappush

# 2 ** 60; weights above it are all made less.
GREATEST = 1152921504606846976


class Chooser:
    """Letters by how often they stood in clashes of late, and the way in which each was true last.

    A literal is a number 2 * letter + c here, c being 1 for the opposite.
    """

    def __init__(self, many):
        self.weights = [0 for _ in range(many)]
        self.step_wide = 1 << 20
        self.ways = [1 for _ in range(many)]
        self.queue = [(0, letter) for letter in range(many)]
        # Whether a letter stands in the queue with its weight; it may stand there with lesser ones, too.
        self.queued = [True for _ in range(many)]

    def weigh(self, letters):
        """Letters stood in a clash."""
        for letter in letters:
            self.weights[letter] += self.step_wide
            self.queued[letter] = False
        # Late clashes count more than early ones.
        self.step_wide += self.step_wide >> 4
        if self.step_wide > GREATEST:
            self.step_wide >>= 30
            self.weights = [weight >> 30 for weight in self.weights]
            self.queue = [(-weight, letter) for letter, weight in enumerate(self.weights)]
            self.queued = [True for _ in self.weights]
            heapify(self.queue)

    def let_go(self, literal):
        """A literal that was true is so no longer."""
        letter = literal >> 1
        self.ways[letter] = literal & 1
        if not self.queued[letter]:
            self.queued[letter] = True
            heappush(self.queue, (-self.weights[letter], letter))

    def choose(self, truths):
        """The literal to be tried next, None if all letters have truths."""
        while self.queue:
            weight, letter = heappop(self.queue)
            if weight == -self.weights[letter]:
                self.queued[letter] = False
                if truths[2 * letter] == 0:
                    return 2 * letter + self.ways[letter]
        return None
