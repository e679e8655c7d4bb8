"""Numbers written as bits, and read from them."""

from bitloom.errors import BadBits


def width_for(many):
    """The width in which numbers below many are written."""
    return (many - 1).bit_length()


class BitWriter:
    """Bits that are written one number behind another."""

    def __init__(self):
        self.written = []

    def put(self, number, width):
        """Write a number in a width, the bit that counts 1 first."""
        self.written.extend([number >> place & 1 for place in range(width)])

    def choose(self, menu, part):
        """Write the number of a part of a menu."""
        self.put(menu.index(part), width_for(len(menu)))


class BitReader:
    """Bits that are read one number behind another."""

    def __init__(self, bits):
        self.given = bits
        self.done = 0

    def number(self, width, many):
        """The next number in a width; raise BadBits if the bits don't suffice, or it is not below many."""
        if self.done + width > len(self.given):
            raise BadBits(len(self.given))
        found = 0
        for bit in self.given[self.done:self.done + width][::-1]:
            found = 2 * found + bit
        if found >= many:
            raise BadBits(self.done)
        self.done += width
        return found

    def choice(self, menu):
        """The part of a menu whose number is next."""
        return menu[self.number(width_for(len(menu)), len(menu))]

    def unlike_choice(self, menu, met):
        """The part of a menu whose number is next, and that is not among those met, to which it is put."""
        begin = self.done
        part = self.choice(menu)
        if part in met:
            raise BadBits(begin)
        met[part] = True
        return part

    def end(self):
        """Raise BadBits if bits are left."""
        if self.done < len(self.given):
            raise BadBits(self.done)
