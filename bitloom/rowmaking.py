"""The rows of flat designs made from plans."""

from bitloom.rowforms import ROW_MEMBERS, row_width


class Frame:
    """A plan that is gone through: its steps, how many are done, the rows that they put, and whose plan it is."""

    def __init__(self, steps, name):
        self.walk = steps
        self.done = 0
        self.heap = []
        self.name = name


class RowMaker:
    """The rows that are made so far, for ins that are pairs, and regs that begin with name and width."""

    def __init__(self, ins, regs):
        self.ins = ins
        self.regs = regs
        self.rows = []
        self.widths = []
        self.number_of = {}
        # The numbers of the rows that stand for things, by flat names; of a memory that of its first value.
        self.standing = {}
        for k in range(len(ins)):
            self.put(("in", k))
        for k in range(len(regs)):
            self.put(("reg", k))

    def put(self, row):
        """The number of a row, which is put behind all others if it is not there."""
        if row not in self.number_of:
            self.number_of[row] = len(self.rows)
            self.widths.append(row_width(row, self.ins, self.regs, self.widths))
            self.rows.append(row)
        return self.number_of[row]

    def put_equal(self, number, worth):
        """The number of the row that tells whether the row with a number is a value."""
        return self.put(("eq", number, self.put(("word", self.widths[number], worth))))

    def put_read(self, memory, at):
        """The number of the row of what a memory has at the value of the row at."""
        found = self.put(("word", memory.width, 0))
        for k in range(self.values_reached(memory, at)):
            chosen = self.put_equal(at, k)
            found = self.put(("mux", chosen, self.standing[memory.name] + k, found))
        return found

    def values_reached(self, memory, at):
        """How many values of a memory the values of the row at can tell."""
        return min(memory.many, 1 << self.widths[at])

    def take(self, step, heap):
        """Do a step of a plan; the thing of a ("thing", thing) has its row."""
        word = step[0]
        if word == "thing":
            heap.append(self.standing[step[1].name])
        elif word == "word":
            heap.append(self.put(step))
        elif word == "read":
            heap.append(self.put_read(step[1], heap.pop()))
        elif word == "cut":
            heap.append(self.put(("cut", heap.pop(), step[1], step[2])))
        else:
            first = len(heap) - len(ROW_MEMBERS[word])
            row = (word, *heap[first:])
            del heap[first:]
            heap.append(self.put(row))

    def made(self, steps):
        """The number of the row that a plan makes."""
        # Plans that wait for those of other things stand in a list of their own, however many hang on one another.
        frames = [Frame(steps, None)]
        while True:
            frame = frames[-1]
            if frame.done == len(frame.walk):
                frames.pop()
                if not frames:
                    return frame.heap[0]
                self.standing[frame.name] = frame.heap[0]
                continue
            step = frame.walk[frame.done]
            if step[0] == "thing" and step[1].name not in self.standing:
                frames.append(Frame(step[1].plans[0], step[1].name))
            else:
                self.take(step, frame.heap)
                frame.done += 1

    def made_memory(self, memory):
        """The list of the numbers of the rows of the next values of a memory."""
        first = self.standing[memory.name]
        found = [first + k for k in range(memory.many)]
        at, data, on = [self.made(steps) for steps in memory.plans]
        for k in range(self.values_reached(memory, at)):
            written = self.put(("and", on, self.put_equal(at, k)))
            found[k] = self.put(("mux", written, data, first + k))
        return found
