"""The rows of the texts of bits."""

DIGITS = "0123456789abcdef"
NUMBER_DIGITS = 4
MOST_DIGITS = 32
CHECK_DIGITS = 4
COUNT_DIGITS = 8
ROW_BITS = 128
# Row numbers have four digits: at most 65535 rows of 128 bits.
MOST_BITS = 8388480
MIDDLE = 5


def row_check(digits):
    """The check of a string of digits."""
    return 1 + sum([(place + 1) * DIGITS.index(digit) for place, digit in enumerate(digits)])


def digits_of(bits):
    """The digits that stand for at most so many bits as a row has, noughts filling the last one."""
    filled = [*bits, *[0 for _ in range(-len(bits) % 4)]]
    found = []
    for place in range(0, len(filled), 4):
        one, two, four, eight = filled[place:place + 4][::-1]
        found.append(DIGITS[8 * eight + 4 * four + 2 * two + one])
    return "".join(found)


def worth_of(digits):
    """The number that digits tell by sixteens."""
    found = 0
    for digit in digits:
        found = 16 * found + DIGITS.index(digit)
    return found


def row_text(number, middle):
    """A row with its number, its digits in the middle, and its check."""
    ahead = f"{number:04x}"
    return f"{ahead} {middle} {row_check(ahead + middle):04x}"


def form_fault(row):
    """The first place at which a row is not of the form, its length if it is too short, None if it is of the form."""
    end = MIDDLE
    while end < min(len(row), MIDDLE + MOST_DIGITS) and row[end] in DIGITS:
        end += 1
    shape = "0" * NUMBER_DIGITS + " " + "0" * max(1, end - MIDDLE) + " " + "0" * CHECK_DIGITS
    for place, sign in enumerate(row):
        if place >= len(shape) or sign not in (DIGITS if shape[place] == "0" else " "):
            return place
    return len(row) if len(row) < len(shape) else None


def middle_of(row):
    """The digits in the middle of a row that is of the form."""
    return row[MIDDLE:-CHECK_DIGITS - 1]


def has_right_check(row):
    """Whether a row that is of the form has the right check."""
    return worth_of(row[-CHECK_DIGITS:]) == row_check(row[:NUMBER_DIGITS] + middle_of(row))


def check_place(row):
    """The place of the check of a row that is of the form."""
    return len(row) - CHECK_DIGITS


def count_told(middle):
    """How many bits the middle of a row 0 tells, None if it can tell none."""
    if len(middle) != COUNT_DIGITS:
        return None
    many = worth_of(middle)
    return many if many <= MOST_BITS else None


def rows_for(many):
    """How many rows so many bits have, row 0 not counted."""
    return -(-many // ROW_BITS)


def _length_of(many, number):
    """How many bits a row with a number has, of so many bits in all."""
    return min(ROW_BITS, many - (number - 1) * ROW_BITS)


def is_middle(middle, many, number):
    """Whether digits may stand in the middle of a row with a number, of so many bits in all."""
    length = _length_of(many, number)
    fills = -length % 4
    return len(middle) == (length + fills) // 4 and worth_of(middle[-1]) & (1 << fills) - 1 == 0


def bits_in(middle, many, number):
    """The tuple of the bits of a row with a number, of so many bits in all."""
    worth = worth_of(middle)
    last = 4 * len(middle) - 1
    return tuple([worth >> place & 1 for place in range(last, last - _length_of(many, number), -1)])
