"""Readers of letters of which some are not read; and how readers are made."""

from jumblepost.common import is_first, is_record
from jumblepost.errors import BadValue, NotForced, Unfit
from jumblepost.forced import decide
from jumblepost.jumbles import bounds_of
from jumblepost.readers import AgainReader, LossReader, PlainReader, Reader
from jumblepost.twins import Twins, check_jumble


def least_untold(first, held):
    """The two least numbers from first on that are not held."""
    found = []
    number = first
    while len(found) < 2:
        if number not in held:
            found.append(number)
        number += 1
    return found


class UnreadReader(Reader):
    """A reader that tells the number of an unread letter when all near letters have come."""

    KIND = "unread"

    @property
    def window(self):
        """The least and the greatest number that the next letter can have."""
        early, late = bounds_of(self.jumble)
        return self.first + max(0, self.places - late), self.first + self.places + early

    def take(self, look):
        """Takes the look of the next letter, or None, and returns the pairs (place, number) known by it."""
        place = self.places
        if look is None:
            # An unread letter is told when the next one may come.
            if self.waiting is not None:
                raise Unfit(place)
            return self.counted(self.held, place, [])
        number = self.number_of(look)
        if number is None or not self.goes_on(number):
            raise Unfit(place)
        return self.counted(self.held + (number,), self.waiting, [(place, number)])

    def goes_on(self, number):
        """Whether a run that fits goes on with this number: what is not told can still come in time.

        The least number that is not told can be that of a waiting letter, if this is not too early for
        it; it is not too late, as all letters ahead of the waiting one were in time.
        """
        early, late = bounds_of(self.jumble)
        untold = least_untold(self.least_open(self.last), self.held + (number,))
        if self.waiting is not None:
            if untold[0] > self.first + self.waiting + early:
                return False
            untold = untold[1:]
        return untold[0] >= self.first + self.places + 1 - late

    def counted(self, held, waiting, told):
        """Counts one letter more, tells a waiting one if it is known now, and releases numbers."""
        self.places += 1
        if waiting is not None and self.places == waiting + max(1, self.jumble.spread):
            number = least_untold(self.least_open(self.last), held)[0]
            held = held + (number,)
            told = sorted([(waiting, number)] + told)
            waiting = None
        self.waiting = waiting
        self.release(sorted(held))
        return tuple(told)

    def release(self, held):
        """Releases those of these numbers that are below all that can come or is not told."""
        _, late = bounds_of(self.jumble)
        end = min(self.first + self.places - late, least_untold(self.least_open(self.last), held)[0])
        if end > self.least_open(self.last):
            self.last = end - 1
        self.held = tuple([number for number in held if number >= end])


def reader(line, jumble, first=0):
    """A reader of a line and a jumble, which must be forced, that has taken nothing."""
    check_jumble(line, jumble)
    if not is_first(first):
        raise BadValue("first")
    paper = decide(line, jumble)
    if isinstance(paper, Twins):
        raise NotForced(paper)
    if jumble.apart > 0:
        return UnreadReader(line, jumble, first)
    if jumble.again:
        return AgainReader(line, jumble, first)
    if jumble.lost > 0:
        return LossReader(line, jumble, first)
    return PlainReader(line, jumble, first)


def readings(line, jumble, record, first=0):
    """Yields the pairs (place, number) that a reader tells of a record."""
    check_jumble(line, jumble)
    if not is_record(record):
        raise BadValue("record")
    for pair in reader(line, jumble, first).take_all(*record):
        yield pair
