"""Texts as lexemes."""

from bitloom.errors import BadText
from bitloom.names import DIGITS, KEYWORDS, LETTERS, LONGEST_WORD, WORD_SIGNS

SIGNS = "{}()[];,.:=?!@#+-*/<~&|^"
LONG_SIGNS = ("<<", ">>", "==", "<-")
BLANKS = " \n"


def _line_end(text, place):
    """The place of the next line feed from a place on, or the length of the text."""
    end = text.find("\n", place)
    return len(text) if end < 0 else end


def _end_of(text, place, signs):
    """The first place from a place on whose character is none of the signs."""
    while place < len(text) and text[place] in signs:
        place += 1
    return place


def _lexeme_at(text, place):
    """The lexeme (sort, lexeme, place) that begins at a place, or None."""
    first = text[place]
    if first in LETTERS:
        word = text[place:_end_of(text, place, WORD_SIGNS)]
        if len(word) > LONGEST_WORD:
            return None
        return ("keyword" if word in KEYWORDS else "name", word, place)
    if first == "0":
        return ("numeral", first, place)
    if first in DIGITS:
        return ("numeral", text[place:_end_of(text, place, DIGITS)], place)
    if text[place:place + 2] in LONG_SIGNS:
        return ("sign", text[place:place + 2], place)
    if first in SIGNS:
        return ("sign", first, place)
    return None


def scanned(text):
    """The lexemes of a text up to the first character that begins none, and its place.

    The place is the length of the text if there is no such character.
    """
    found = []
    place = 0
    while place < len(text):
        if text[place] in BLANKS:
            place += 1
        elif text[place:place + 2] == "//":
            place = _line_end(text, place)
        else:
            lexeme = _lexeme_at(text, place)
            if lexeme is None:
                return found, place
            found.append(lexeme)
            place += len(lexeme[1])
    return found, place


def lexemes(text):
    """The list of the lexemes of a text; raise BadText at the first character that begins none."""
    found, place = scanned(text)
    if place < len(text):
        raise BadText(place)
    return found
