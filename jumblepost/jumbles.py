"""Jumbles: rules for the order of letters, and how great a span each of them needs."""

from jumblepost.common import Words, is_between
from jumblepost.errors import BadValue


def spread_of(early, late):
    """How far a number can lie from another one at the same place."""
    return early + late if early >= 1 and late >= 1 else 0


def most_apart(early, late):
    """The greatest distance of unread letters that a jumble can ask for."""
    return max(1, spread_of(early, late))


def bounds_of(jumble):
    """How many places a letter can come too early, and too late."""
    return (jumble.early, jumble.late) if jumble.spread > 0 else (0, 0)


def need_of(jumble):
    """The least span with which numbers are forced, None if no span is enough."""
    if jumble.apart > 0 and (jumble.lost > 0 or jumble.again):
        return None
    if jumble.spread == 0 and jumble.lost == 0 and not jumble.again:
        return 1
    if jumble.apart > 0:
        return jumble.spread + 1 if jumble.apart == jumble.spread else None
    if jumble.again:
        return jumble.spread + jumble.lost + 2
    return jumble.spread + jumble.lost + 1 if jumble.lost > 0 else jumble.spread


def loses_within(jumble, other):
    """Whether what one jumble lets be lost is no more than what another one lets be lost."""
    near = jumble.spread + jumble.lost + 1
    reach = other.spread + other.lost + 1
    return reach // near * jumble.lost + min(jumble.lost, reach % near) <= other.lost


def jumble_words(jumble):
    """The words and integers of the text of a jumble."""
    lost = ["lost", jumble.lost] if jumble.lost > 0 else []
    again = ["again"] if jumble.again else []
    apart = ["apart", jumble.apart] if jumble.apart > 0 else []
    return ["early", jumble.early, "late", jumble.late] + lost + again + apart


def read_jumble(words):
    """The early, late, lost, again and apart that the last words tell."""
    words.skip("early")
    early = words.integer(0, Jumble.MOST)
    words.skip("late")
    late = words.integer(0, Jumble.MOST)
    lost = words.integer(1, Jumble.MOST) if words.comes("lost") else 0
    again = words.comes("again")
    apart = words.integer(1, most_apart(early, late)) if words.comes("apart") else 0
    words.finish()
    return early, late, lost, again, apart


class Jumble:
    """How early and late letters come, how many are lost, whether some come again or are not read."""

    MOST = 20

    def __init__(self, early=0, late=0, lost=0, again=False, apart=0):
        if not is_between(early, 0, Jumble.MOST):
            raise BadValue("early")
        if not is_between(late, 0, Jumble.MOST):
            raise BadValue("late")
        if not is_between(lost, 0, Jumble.MOST):
            raise BadValue("lost")
        if not isinstance(again, bool):
            raise BadValue("again")
        if not is_between(apart, 0, most_apart(early, late)):
            raise BadValue("apart")
        self.early = early
        self.late = late
        self.lost = lost
        self.again = again
        self.apart = apart

    @property
    def spread(self):
        """Early and late together if both are above 0, otherwise 0."""
        return spread_of(self.early, self.late)

    @property
    def need(self):
        """The least span with which numbers are forced, None if no span is enough."""
        return need_of(self)

    @property
    def plain(self):
        """Whether letters come early and late alone."""
        return self.lost == 0 and self.apart == 0 and not self.again

    def __eq__(self, other):
        return (isinstance(other, Jumble) and self.early == other.early and self.late == other.late
                and self.lost == other.lost and self.again == other.again and self.apart == other.apart)

    def __str__(self):
        return " ".join([str(word) for word in jumble_words(self)])

    def within(self, other):
        """Whether each run with unread places that fits this jumble fits the other one."""
        if not isinstance(other, Jumble):
            raise BadValue("other")
        if self.spread > 0 and (self.early > other.early or self.late > other.late):
            return False
        if (self.again and not other.again) or not loses_within(self, other):
            return False
        return self.apart == 0 or 1 <= other.apart <= self.apart

    @classmethod
    def read(cls, text):
        """The jumble whose text this is."""
        early, late, lost, again, apart = read_jumble(Words(text))
        return cls(early, late, lost, again, apart)
