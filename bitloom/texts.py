"""The texts of designs, expressions and numbers, written and read."""

from bitloom.reading import read_form
from bitloom.writing import design_lines, part_text


def design_text(design):
    """The written text of a design."""
    return "".join(line + "\n" for line in design_lines(design))


def expression_text(expression):
    """The written text of an expression."""
    return part_text(expression)


def number_text(number):
    """The written text of a number."""
    return part_text(number)


def read_design(text):
    """The design that a text tells; raise BadText with its first wrong place."""
    return read_form(text, "DESIGN")


def read_expression(text):
    """The expression that a text tells; raise BadText with its first wrong place."""
    return read_form(text, "E")


def read_number(text):
    """The number that a text tells; raise BadText with its first wrong place."""
    return read_form(text, "NUMBER")
