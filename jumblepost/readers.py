"""Readers: they tell the number of each letter by its look, as soon as it is known."""

from jumblepost.errors import BadValue, Unfit
from jumblepost.heads import lost_free
from jumblepost.jumbles import bounds_of
from jumblepost.looks import fittings_of, is_shaped, is_shown
from jumblepost.runs import lost_too_near


def comes_too_early(letters, came, early):
    """Whether one of some ascending letters, pairs (number, place), comes too early for its rank.

    So many letters of lesser numbers came besides those that are listed.
    """
    return any([place + early < came + index for index, (_, place) in enumerate(letters)])


def unlisted(letters, least, end):
    """The numbers from least to below end that none of some letters has; none without an end."""
    if end is None:
        return []
    known = {number: True for number, _ in letters}
    return [number for number in range(least, end) if number not in known]


class Reader:
    """A reader of letters that are all read; the last letters are held until no lesser one can come."""

    KIND = "reader"

    def __init__(self, line, jumble, first):
        self.line = line
        self.jumble = jumble
        self.first = first
        self.places = 0
        self.held = ()
        self.last = None
        self.missing = ()
        self.waiting = None
        # For each held number the place of its letter.
        self.held_at = ()

    @classmethod
    def begun(cls, line, jumble, first):
        """A reader of this class that has taken nothing."""
        return cls(line, jumble, first)

    def anew(self):
        """A reader of the same class, line, jumble and first that has taken nothing."""
        return self.begun(self.line, self.jumble, self.first)

    def follow(self, other):
        """Comes to what another reader of the same line, jumble and first has come to."""
        self.places = other.places
        self.held = other.held
        self.last = other.last
        self.missing = other.missing
        self.waiting = other.waiting
        self.held_at = other.held_at

    @property
    def window(self):
        """The least and the greatest number that the next letter can have."""
        early, late = bounds_of(self.jumble)
        wide = min(self.places, late) + early + self.jumble.lost
        if self.last is None:
            return self.first, self.first + wide
        least = self.last if self.jumble.again else self.last + 1
        return least, self.last + 1 + wide

    def number_of(self, look):
        """The number of the next letter by its look, None if none in the window can come with it."""
        if not is_shaped(self.line, look):
            raise BadValue("look")
        fittings = fittings_of(self.line, look)
        least, most = self.window
        for number in range(least, most + 1):
            if self.jumble.again or number not in self.held:
                if is_shown(self.line, fittings, number):
                    return number
        return None

    def take(self, look):
        """Takes the look of the next letter, and returns the pairs (place, number) known by it."""
        if look is None:
            raise Unfit(self.places)
        place = self.places
        number = self.number_of(look)
        if number is None or not self.receives(number):
            raise Unfit(place)
        return ((place, number),)

    def receives(self, number):
        """Gives the next letter a number; False, and nothing changes, if no run that fits begins so."""
        early, late = bounds_of(self.jumble)
        came = self.places - len(self.held)
        letters = sorted(list(zip(self.held, self.held_at)) + [(number, self.places)])
        if comes_too_early(letters, came, early):
            return False
        many = max(0, len(letters) - late)
        last = letters[many - 1][0] if many > 0 else self.last
        missing = unlisted(letters, self.least_open(self.last), last if many > 0 else None)
        free = unlisted(letters, self.least_open(last), letters[-1][0])
        # No more than these of the numbers that were missing before matter beside fresh ones.
        known = self.missing[max(0, len(self.missing) - self.jumble.lost):]
        if len(lost_too_near([*known, *missing, *lost_free(letters, came, free, early)], self.jumble)) > 0:
            return False
        self.places += 1
        self.held = tuple([told for told, _ in letters[many:]])
        self.held_at = tuple([place for _, place in letters[many:]])
        self.last = last
        self.missing = self.missing + tuple(missing)
        return True

    def least_open(self, last):
        """The least number that is not released or missing if this one was released last."""
        return self.first if last is None else last + 1

    def take_all(self, *looks):
        """Takes several looks, or none if one is refused, and returns all pairs."""
        trial = self.anew()
        trial.follow(self)
        told = []
        for look in looks:
            told.extend(trial.take(look))
        self.follow(trial)
        return tuple(told)


class PlainReader(Reader):
    """A reader of letters of which none is lost and none comes again."""

    KIND = "plain"


class LossReader(Reader):
    """A reader of letters of which some can be lost."""

    KIND = "loss"


class AgainReader(Reader):
    """A reader of letters whose numbers can come again."""

    KIND = "again"
