"""Names, values, and what counts as a number."""

KEYWORDS = (
    "design", "module", "size", "in", "out", "wire", "reg", "mem", "bits", "for", "to", "when", "else", "top",
)
LETTERS = "abcdefghijklmnopqrstuvwxyz"
DIGITS = "0123456789"
WORD_SIGNS = "_abcdefghijklmnopqrstuvwxyz0123456789"
LONGEST_WORD = 16
MOST_WIDTH = 64


def is_number(value):
    """Whether a value is an integer; True and False are none here."""
    return isinstance(value, int) and not isinstance(value, bool)


def is_count(value):
    """Whether a value is an integer from 0 on."""
    return is_number(value) and value >= 0


def is_below(value, many):
    """Whether a value is an integer from 0 on that is less than many."""
    return is_count(value) and value < many


def is_width(value):
    """Whether a value is a width, from 1 to 64."""
    return is_number(value) and 1 <= value <= MOST_WIDTH


def is_name(value):
    """Whether a value, which may be anything, is a name."""
    if not isinstance(value, str) or not 1 <= len(value) <= LONGEST_WORD:
        return False
    if value[0] not in LETTERS or value in KEYWORDS:
        return False
    return all(sign in WORD_SIGNS for sign in value)


def is_value(value, width):
    """Whether a value, which may be anything, is one of a width."""
    # A width may be so great that 2 ** width could not be made.
    return is_count(value) and value.bit_length() <= width
