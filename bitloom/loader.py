"""Loaders, which get rows of texts while a machine runs."""

from bitloom.bitrows import (
    MIDDLE, NUMBER_DIGITS, bits_in, check_place, count_told, form_fault, has_right_check, is_middle, middle_of,
    rows_for, worth_of,
)
from bitloom.errors import BadBits, BadText, NoMachine, NotStill, NotWhole
from bitloom.machine import read_back


class Loader:
    """A bench on which rows lie, and the machine that runs."""

    def __init__(self):
        self.bench = {}
        self.running = None

    def take(self, row):
        """Take a row; return its number, or raise BadText with its first wrong place."""
        place = form_fault(row)
        if place is not None:
            raise BadText(place)
        if not has_right_check(row):
            raise BadText(check_place(row))
        number = worth_of(row[:NUMBER_DIGITS])
        middle = middle_of(row)
        if number == 0 and count_told(middle) is None:
            raise BadText(MIDDLE)
        self.bench[number] = middle
        return number

    def numbers(self):
        """The ascending list of the numbers of the rows on the bench."""
        return sorted(self.bench)

    def missing(self):
        """The ascending list of the numbers of the rows that are not there, or not as they must be."""
        if 0 not in self.bench:
            return [0]
        many = count_told(self.bench[0])
        found = []
        for number in range(1, 1 + rows_for(many)):
            if number not in self.bench or not is_middle(self.bench[number], many, number):
                found.append(number)
        return found

    def _told(self):
        """The machine that the bench tells, None if it is not whole."""
        if self.missing():
            return None
        many = count_told(self.bench[0])
        if len(self.bench) != 1 + rows_for(many):
            return None
        bits = []
        for number in range(1, 1 + rows_for(many)):
            bits.extend(bits_in(self.bench[number], many, number))
        try:
            return read_back(tuple(bits))
        except (BadBits, NotStill):
            return None

    def is_whole(self):
        """Whether the bench is whole."""
        return self._told() is not None

    def drop(self):
        """Empty the bench."""
        self.bench = {}

    def switch(self):
        """Let the machine run that the bench tells, and empty the bench."""
        told = self._told()
        if told is None:
            raise NotWhole()
        self.running = told
        self.bench = {}

    def step(self, lot):
        """Go on by a clock of the machine that runs; return its out bits."""
        if self.running is None:
            raise NoMachine()
        return self.running.step(lot)

    def machine(self):
        """A twin of the machine that runs, or None."""
        return None if self.running is None else self.running.twin()
