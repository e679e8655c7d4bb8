"""The lines of the texts of traces, one after another."""

from bitloom.names import DIGITS, is_value, is_width

LONGEST_NAME = 2000
# No value of 64 bits, and no width, has more digits.
MOST_DIGITS = 20


def is_signal_name(value):
    """Whether a value, which may be anything, is a name such as a trace has."""
    if not isinstance(value, str) or not 1 <= len(value) <= LONGEST_NAME:
        return False
    return all("!" <= sign <= "~" for sign in value)


def numeral_worth(text):
    """What a numeral without unnecessary zeros tells; None if a text is none, or tells more than any value is."""
    if not 1 <= len(text) <= MOST_DIGITS or not all(sign in DIGITS for sign in text):
        return None
    if text[0] == "0" and text != "0":
        return None
    return int(text)


class TraceLines:
    """The lines of a trace that are read so far."""

    def __init__(self):
        self.stage = "begin"
        self.pairs = []
        self.number_of = {}
        self.clocks = []
        self.now = []

    def read_name(self, words):
        """Read a line of a name; return whether it may stand here."""
        if len(words) != 3 or not is_signal_name(words[1]) or words[1] in self.number_of:
            return False
        width = numeral_worth(words[2])
        if not is_width(width):
            return False
        self.number_of[words[1]] = len(self.pairs)
        self.pairs.append((words[1], width))
        self.now.append(0)
        self.stage = "names"
        return True

    def read_clock(self, words):
        """Read a line of a clock; return whether it may stand here."""
        if len(words) % 2 == 0:
            return False
        last = -1
        values = list(self.now)
        for k in range(1, len(words), 2):
            number = self.number_of.get(words[k], -1)
            worth = numeral_worth(words[k + 1])
            if number <= last or worth == self.now[number] or not is_value(worth, self.pairs[number][1]):
                return False
            values[number] = worth
            last = number
        self.now = values
        self.clocks.append(tuple(values))
        self.stage = "clocks"
        return True

    def read_line(self, line):
        """Read a line; return whether a text of a trace may have it behind those that are read."""
        words = line.split(" ")
        if self.stage == "begin" and line == "trace":
            self.stage = "trace"
            return True
        if self.stage in ("trace", "names") and words[0] == "=":
            return self.read_name(words)
        if self.stage in ("names", "clocks") and words[0] == "@":
            return self.read_clock(words)
        if self.stage in ("names", "clocks") and line == "end":
            self.stage = "end"
            return True
        return False
