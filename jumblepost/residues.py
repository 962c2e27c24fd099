"""Residues: which numbers look like the one that is a spread above them."""

from math import lcm

from jumblepost.common import is_between, is_number
from jumblepost.errors import BadValue, TooMany
from jumblepost.looks import check_line, ways_shown

MOST_SPREAD = 12
MOST_NUMBERS = 400


def round_of(line, spread):
    """After how many numbers both the residues modulo a spread and the figures come again."""
    return lcm(spread, line.stamp.cycle)


def check_round(line, spread):
    """Raises the error for a line and a spread that take too long to come round."""
    if round_of(line, spread) > MOST_NUMBERS:
        raise TooMany("numbers")


def check_spread(line, spread):
    """Raises the errors for values that are no line and no spread."""
    check_line(line)
    if not is_between(spread, 1, MOST_SPREAD):
        raise BadValue("spread")


class Steps:
    """Whether numbers look like the one that is a spread above them; looks are worked out once."""

    def __init__(self, line, spread):
        self.line = line
        self.reach = spread
        self.shown = {}

    def looks_at(self, number):
        """A dict with the looks of an integer from 0 on, which hang on its figures alone."""
        due = number % self.line.stamp.cycle
        if due not in self.shown:
            self.shown[due] = ways_shown(self.line, due)
        return self.shown[due]

    def is_step(self, number):
        """Whether an integer from 0 on looks like the one that is a spread above it."""
        far = self.looks_at(number + self.reach)
        return any([look in far for look in self.looks_at(number)])

    def first_closed(self, number):
        """The least integer, by steps from this one on, that does not look like the next one."""
        for told in range(number, number + round_of(self.line, self.reach), self.reach):
            if not self.is_step(told):
                return told
        return None

    def open_among(self, numbers):
        """Those of some integers from 0 on whose residue is open."""
        return [number for number in numbers if self.first_closed(number) is None]


def open_residues(line, spread):
    """The open residues modulo a spread, ascending."""
    check_spread(line, spread)
    check_round(line, spread)
    return tuple(Steps(line, spread).open_among(list(range(spread))))


def closed_number(line, spread, number):
    """The least number, by steps of the spread, that does not look like the next one, None without any."""
    check_spread(line, spread)
    if not is_number(number):
        raise BadValue("number")
    check_round(line, spread)
    return Steps(line, spread).first_closed(number)
