"""Values and lots as bits."""


def bits_of(width, value):
    """The tuple of the bits of a value of a width, the low one first."""
    return tuple([value >> k & 1 for k in range(width)])


def value_of(bits):
    """The value of a tuple of bits."""
    value = 0
    for bit in bits[::-1]:
        value = 2 * value + bit
    return value


def bit_lot(widths, values):
    """The tuple of the bits of values of some widths, one's behind the other."""
    found = []
    for width, value in zip(widths, values):
        found.extend(bits_of(width, value))
    return tuple(found)


def value_lot(widths, bits):
    """The tuple of the values of some widths of which these are the bits."""
    found = []
    place = 0
    for width in widths:
        found.append(value_of(bits[place:place + width]))
        place += width
    return tuple(found)
