"""Steady runs: behind a place each letter is as early or as late as it can be."""

from jumblepost.common import are_integers, is_between, is_number
from jumblepost.errors import BadValue, TooMany
from jumblepost.residues import MOST_SPREAD

MOST_PART = 20
MOST_STRETCH = 1000


def front_of(early, late, place):
    """The integers of which some come ahead of a place, and some from it on."""
    return list(range(max(0, place - late), place + early))


def forced_residues(early, late, place):
    """The residues, ascending, that each ahead of a place must have."""
    return sorted([number % (early + late) for number in range(place - late, min(0, place))])


def is_ahead(value, early, late, place):
    """Whether any value is an ascending tuple of residues that can come ahead of a place."""
    if not isinstance(value, tuple) or len(value) != late or not are_integers(value):
        return False
    if list(value) != sorted(set(value)) or not 0 <= value[0] <= value[-1] < early + late:
        return False
    return all([residue in value for residue in forced_residues(early, late, place)])


def numbers_ahead(early, late, place, ahead):
    """The numbers of the front whose residue is in ahead, ascending."""
    return [number for number in front_of(early, late, place) if number % (early + late) in ahead]


def is_final(value, early, place, numbers):
    """Whether any value can be the last one of these numbers to come ahead of a place."""
    if not is_between(value, 0, place + early - 1) or value not in numbers:
        return False
    # The others come a place earlier than they would, and the greatest one cannot.
    return value == numbers[-1] or numbers[-1] != place + early - 1


class SteadyRun:
    """A run that has each residue either early or late from a place on."""

    def __init__(self, early, late, place, ahead, final=None):
        if not is_between(early, 1, MOST_PART):
            raise BadValue("early")
        if not is_between(late, 1, MOST_PART):
            raise BadValue("late")
        if not is_number(place):
            raise BadValue("place")
        if early + late > MOST_SPREAD:
            raise TooMany("spread")
        if not is_ahead(ahead, early, late, place):
            raise BadValue("ahead")
        numbers = numbers_ahead(early, late, place, ahead)
        if final is not None and not is_final(final, early, place, numbers):
            raise BadValue("final")
        self.early = early
        self.late = late
        self.place = place
        self.ahead = ahead
        self.final = final
        # The numbers of the front that come ahead of the place, in the order in which they come.
        self.head = tuple([number for number in numbers if number != final])
        if final is not None:
            self.head = (*self.head, final)

    def __eq__(self, other):
        return (isinstance(other, SteadyRun) and self.early == other.early and self.late == other.late
                and self.place == other.place and self.ahead == other.ahead and self.final == other.final)

    def letter_at(self, place):
        """The number at a place, however many digits the place has."""
        if place >= self.place:
            low = place - self.late
            return place + self.early if low % (self.early + self.late) in self.ahead else low
        at = place - (self.place - len(self.head))
        return self.head[at] if at >= 0 else place

    def letter(self, place):
        """The number at a place."""
        if not is_number(place):
            raise BadValue("place")
        return self.letter_at(place)

    def where(self, number):
        """The tuple of the one place of a number."""
        if not is_number(number):
            raise BadValue("number")
        begin = self.place - len(self.head)
        if number < begin:
            return (number,)
        if number in self.head:
            return (begin + self.head.index(number),)
        if number % (self.early + self.late) in self.ahead:
            return (number - self.early,)
        return (number + self.late,)

    def stretch(self, place, many):
        """The numbers at so many places from a place on."""
        if not is_number(place):
            raise BadValue("place")
        if not is_between(many, 0, MOST_STRETCH):
            raise BadValue("many")
        return tuple([self.letter_at(there) for there in range(place, place + many)])
