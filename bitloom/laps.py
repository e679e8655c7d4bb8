"""The rounds of an each, and whether all of them are like the first one."""

# Where the items have numbers that are reckoned when they are unrolled.
NUMBER_PLACES = {
    "in": (2,),
    "out": (2,),
    "wire": (2,),
    "reg": (2, 3),
    "mem": (2, 3),
    "each": (2, 3),
    "when": (1,),
    "drive": (),
    "use": (),
}
WITH_NAMES = ("in", "out", "wire", "reg", "mem", "use")


def _mentions(number, name):
    """Whether a number has the value of a name within it."""
    todo = [number]
    while todo:
        part = todo.pop()
        if part[0] == "size":
            if part[1] == name:
                return True
        elif part[0] != "number":
            todo.extend(part[1:])
    return False


class Laps:
    """The rounds of an each that are left, from low on, below high."""

    def __init__(self, low, high):
        self.low = low
        self.high = high
        self.done = 0
        # How many items and rounds were met, and how many items told, ahead of the first round.
        self.begun = None
        self.told = 0

    def next_number(self):
        """The number of the next round, which is left no more."""
        self.low += 1
        self.done += 1
        return self.low - 1

    def is_steady(self, item, since):
        """Whether all rounds of an each are like the first one, so that nothing else is met in them.

        They are if no number that is reckoned in them hangs on the round, and no thing is told in them with a name
        that was told ahead of them; since tells from names how many items and rounds were met then.
        """
        name = item[1]
        todo = [(inner, False) for inner in item[4]]
        while todo:
            part, is_hidden = todo.pop()
            word = part[0]
            if not is_hidden and any([_mentions(part[k], name) for k in NUMBER_PLACES[word]]):
                return False
            if word in WITH_NAMES and since.get(part[1], self.begun + 1) <= self.begun:
                return False
            if word == "each":
                todo.extend([(inner, is_hidden or part[1] == name) for inner in part[4]])
            elif word == "when":
                todo.extend([(inner, is_hidden) for inner in [*part[2], *part[3]]])
        return True
