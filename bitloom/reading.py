"""Texts read by the rules of the forms."""

from bitloom.errors import BadText
from bitloom.forms import MEMBERS
from bitloom.grammar import LINES, RULES
from bitloom.lexemes import scanned


class Reader:
    """A text that is read: its lexemes, how many are taken, and the parts that are made of them."""

    def __init__(self, text):
        self.lexemes, self.stop = scanned(text)
        self.end_place = len(text)
        self.taken = 0
        self.parts = []
        self.marks = []

    def next_place(self):
        """The place of the next lexeme, or the one at which the lexemes end."""
        if self.taken < len(self.lexemes):
            return self.lexemes[self.taken][2]
        return self.stop

    def next_word(self):
        """The next lexeme, "" if there is none."""
        return self.lexemes[self.taken][1] if self.taken < len(self.lexemes) else ""

    def head(self):
        """What rules go by: the next lexeme, or its sort if it is a name or numeral; "" if there is none."""
        if self.taken == len(self.lexemes):
            return ""
        sort, lexeme, _ = self.lexemes[self.taken]
        return sort if sort in ("name", "numeral") else lexeme

    def take(self, symbol):
        """Go on by one lexeme, which must be of the symbol."""
        if self.head() != symbol:
            raise BadText(self.next_place())
        sort, lexeme, _ = self.lexemes[self.taken]
        if sort == "name":
            self.parts.append(lexeme)
        elif sort == "numeral":
            self.parts.append(int(lexeme))
        self.taken += 1

    def follow(self, form):
        """The symbols with which a form goes on at the next lexeme."""
        rule = RULES.get((form, self.head()))
        if rule is None:
            rule = RULES.get((form, ""))
        if rule is None:
            raise BadText(self.next_place())
        return rule.split()

    def cut_off(self, place):
        """Take away all parts that were made from a place on, and return their tuple."""
        parts = tuple(self.parts[place:])
        del self.parts[place:]
        return parts

    def act(self, word):
        """Make one part of the last ones."""
        if word == "begin":
            self.marks.append(len(self.parts))
        elif word == "tuple":
            self.parts.append(self.cut_off(self.marks.pop()))
        elif word == "swap":
            self.parts.extend(list(self.cut_off(len(self.parts) - 2))[::-1])
        elif word in ("2", "3"):
            self.parts.append(self.cut_off(len(self.parts) - int(word)))
        else:
            self.parts.append((word, *self.cut_off(len(self.parts) - len(MEMBERS[word]))))


def _go_through(reader, form):
    """Read a whole text of a form; raise BadText with its first wrong place if it is of no such form."""
    # Forms that are begun wait in a list of their own, so that they may stand in one another as deep as may be.
    todo = [form]
    while todo:
        symbol = todo.pop()
        if symbol.startswith("$"):
            reader.act(symbol[1:])
        elif symbol.isupper():
            todo.extend(reader.follow(symbol)[::-1])
        else:
            reader.take(symbol)
    if reader.next_place() < reader.end_place:
        raise BadText(reader.next_place())


def read_form(text, form):
    """What a text of a form tells; raise BadText with its first wrong place if it is of no such form."""
    reader = Reader(text)
    _go_through(reader, form)
    return reader.parts[0]


def read_line(text):
    """The list of the word with which a line of a console begins, and of what it tells; raise BadText likewise."""
    reader = Reader(text)
    word = reader.next_word()
    if word not in LINES:
        raise BadText(reader.next_place())
    _go_through(reader, LINES[word])
    # Keywords are no parts, so the word is put ahead of them once, whatever it is.
    return [word, *[part for place, part in enumerate(reader.parts) if place or part != word]]
