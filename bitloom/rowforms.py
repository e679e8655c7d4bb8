"""The forms of the rows of flat designs, and how widths fit."""

from bitloom.names import MOST_WIDTH

# "row" is the number of an earlier row, "value" one of the width ahead of it.
ROW_MEMBERS = {
    "in": ("in",),
    "reg": ("reg",),
    "word": ("width", "value"),
    "not": ("row",),
    "all": ("row",),
    "any": ("row",),
    "odd": ("row",),
    "and": ("row", "row"),
    "or": ("row", "row"),
    "xor": ("row", "row"),
    "add": ("row", "row"),
    "sub": ("row", "row"),
    "mul": ("row", "row"),
    "eq": ("row", "row"),
    "lt": ("row", "row"),
    "join": ("row", "row"),
    "shl": ("row", "row"),
    "shr": ("row", "row"),
    "pick": ("row", "row"),
    "cut": ("row", "low", "width"),
    "mux": ("row", "row", "row"),
}

LIKE_FIRST = ("not", "shl", "shr")
ONE_BIT = ("all", "any", "odd", "pick")
LIKE_BOTH = ("and", "or", "xor", "add", "sub", "mul")


def rows_in(row):
    """The list of the numbers of rows that a row has, in their order."""
    kinds = ROW_MEMBERS[row[0]]
    return [row[k + 1] for k in range(len(kinds)) if kinds[k] == "row"]


def fitting_width(word, widths):
    """The width of what a word makes of parts of some widths; None if they do not fit.

    The word is one of those whose members are all parts with a width.
    """
    if word in LIKE_FIRST:
        return widths[0]
    if word in ONE_BIT:
        return 1
    if word == "join":
        both = widths[0] + widths[1]
        return both if both <= MOST_WIDTH else None
    if word == "mux":
        return widths[1] if widths[0] == 1 and widths[1] == widths[2] else None
    if widths[0] != widths[1]:
        return None
    return widths[0] if word in LIKE_BOTH else 1


def row_width(row, ins, regs, widths):
    """The width of a row, by the ins, the registers, and the widths of all earlier rows; None if these do not fit."""
    word = row[0]
    if word == "in":
        return ins[row[1]][1]
    if word == "reg":
        return regs[row[1]][1]
    if word == "word":
        return row[1]
    if word == "cut":
        return row[3] if row[2] + row[3] <= widths[row[1]] else None
    return fitting_width(word, [widths[number] for number in rows_in(row)])
