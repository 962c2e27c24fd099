"""Stores: numbers are held back until no lesser one can come."""

from jumblepost.common import is_between, is_number
from jumblepost.errors import BadValue, Unfit

MOST_LATE = 20


class Store:
    """Holds so many numbers as can be late, and releases the least one when another comes."""

    def __init__(self, late):
        if not is_between(late, 0, MOST_LATE):
            raise BadValue("late")
        self.late = late
        self.held = ()
        self.last = None
        self.places = 0

    def __len__(self):
        return len(self.held)

    def put(self, number):
        """Takes a number, and returns the one that is released, None if none is."""
        if not is_number(number):
            raise BadValue("number")
        if self.last is not None and number < self.last:
            raise Unfit(self.places)
        held = sorted([*self.held, number])
        self.places += 1
        if len(held) <= self.late:
            self.held = tuple(held)
            return None
        self.held = tuple(held[1:])
        self.last = held[0]
        return self.last
