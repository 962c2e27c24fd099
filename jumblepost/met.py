"""Lines that are met in the middle: whether the looks from a place on force the numbers."""

from jumblepost.common import is_between, is_number
from jumblepost.errors import BadValue, NotForced, TooMany
from jumblepost.jumbles import Jumble
from jumblepost.looks import check_line
from jumblepost.residues import MOST_SPREAD, Steps, check_round, round_of
from jumblepost.sightings import alike_of
from jumblepost.spans import span_table
from jumblepost.steady import MOST_PART, SteadyRun, forced_residues, front_of
from jumblepost.twins import twins_at


class MetForced:
    """A paper: the SpanTable of a line, and for each number of the front where its residue is closed."""

    def __init__(self, early, late, place, table, closed):
        self.early = early
        self.late = late
        self.place = place
        self.table = table
        self.closed = closed

    def __eq__(self, other):
        return (isinstance(other, MetForced) and self.early == other.early and self.late == other.late
                and self.place == other.place and self.table == other.table and self.closed == other.closed)


class MetTwins:
    """A paper: two steady runs that look alike from a place on, and why they do."""

    def __init__(self, early, late, place, one, other, alikes):
        self.early = early
        self.late = late
        self.place = place
        self.one = one
        self.other = other
        self.alikes = alikes

    def __eq__(self, other):
        return (isinstance(other, MetTwins) and self.early == other.early and self.late == other.late
                and self.place == other.place and self.one == other.one and self.other == other.other
                and self.alikes == other.alikes)


def check_met(line, early, late, place):
    """Raises the errors that are due ahead of the table of a line; no place stands for late."""
    check_line(line)
    if not is_between(early, 1, MOST_PART):
        raise BadValue("early")
    if not is_between(late, 1, MOST_PART):
        raise BadValue("late")
    if place is not None and not is_number(place):
        raise BadValue("place")
    if early + late > MOST_SPREAD:
        raise TooMany("spread")
    check_round(line, early + late)


def near_table(line, early, late):
    """The SpanTable of a line whose span is at least the spread; raises if it is less."""
    table = span_table(line)
    if table.span < early + late:
        raise NotForced(twins_at(line, Jumble(early, late), table.span))
    return table


def unlike_pairs(one, other, place, many):
    """The pairs of unlike numbers that two runs have at so many places from a place on."""
    return [
        (number, far) for number, far in zip(one.stretch(place, many), other.stretch(place, many))
        if number != far
    ]


def alikes_from(line, one, other, place):
    """An Alike for each place at which two steady runs differ, from a place on, once round."""
    many = round_of(line, one.early + one.late)
    return tuple([alike_of(line, number, far) for number, far in unlike_pairs(one, other, place, many)])


def shared_ahead(early, late, place, apart):
    """Residues that two steady runs can both have ahead of a place, besides one of these two each."""
    known = forced_residues(early, late, place)
    free = [residue for residue in range(early + late) if residue not in (*known, *apart)]
    return known + free[:late - 1 - len(known)]


def steady_pair(early, late, place, apart, shared):
    """Two steady runs that have unlike residues, one each, and else the same ones ahead of a place."""
    one, other = [SteadyRun(early, late, place, tuple(sorted([*shared, residue]))) for residue in apart]
    return one, other


def met_by(line, early, late, place, table):
    """What met_line tells of a line with this SpanTable."""
    spread = early + late
    if table.span > spread or place == 0:
        return MetForced(early, late, place, table, ())
    steps = Steps(line, spread)
    front = front_of(early, late, place)
    closed = tuple([steps.first_closed(number) for number in front])
    still = [number % spread for number, told in zip(front, closed) if told is None]
    if len(still) < 2:
        return MetForced(early, late, place, table, closed)
    one, other = steady_pair(early, late, place, still[:2], shared_ahead(early, late, place, still[:2]))
    return MetTwins(early, late, place, one, other, alikes_from(line, one, other, place))


def met_line(line, early, late, place=None):
    """A MetForced if the line is forced when met at a place, otherwise a MetTwins."""
    check_met(line, early, late, place)
    table = near_table(line, early, late)
    return met_by(line, early, late, late if place is None else place, table)
