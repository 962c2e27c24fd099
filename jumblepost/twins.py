"""Twins: two runs that look alike for ever and have unlike numbers."""

from jumblepost.errors import BadValue
from jumblepost.jumbles import Jumble
from jumblepost.looks import check_line
from jumblepost.runs import Run
from jumblepost.sightings import alike
from jumblepost.spans import pair_at, span_table


class Twins:
    """A paper, false: two runs, the least place at which they differ, and why they look alike."""

    def __init__(self, jumble, place, one, other, unread, alikes):
        self.jumble = jumble
        self.place = place
        self.one = one
        self.other = other
        self.unread = unread
        self.alikes = alikes

    def __eq__(self, other):
        return (isinstance(other, Twins) and self.jumble == other.jumble and self.place == other.place
                and self.one == other.one and self.other == other.other
                and self.unread == other.unread and self.alikes == other.alikes)

    def __bool__(self):
        return False


def filled(begin, many, placed, numbers):
    """The head of so many places from begin on: a dict of placed numbers, and the others as they stand."""
    rest = list(numbers)
    head = []
    for place in range(begin, begin + many):
        head.append(placed[place] if place in placed else rest.pop(0))
    return tuple(head)


def unlike_places(one, other):
    """The places of the heads of two runs with one begin at which they have unlike numbers."""
    return [
        one.begin + at for at, (number, far) in enumerate(zip(one.numbers, other.numbers)) if number != far
    ]


def twins_of(line, jumble, runs, unread=()):
    """The Twins that two runs are which differ at read places by numbers that are alike."""
    one, other = runs
    places = unlike_places(one, other)
    alikes = [
        alike(line, one.letter(place), other.letter(place)) for place in places if place not in unread
    ]
    return Twins(jumble, places[0], one, other, unread, tuple(alikes))


def unread_twins(line, jumble):
    """The Twins of a jumble that no span is enough for."""
    if 0 < jumble.apart < jumble.spread:
        apart = jumble.apart
        low = max(0, apart - jumble.late)
        rest = [number for number in range(apart + 1) if number not in (low, low + 1)]
        one = Run(0, filled(0, apart + 1, {0: low, apart: low + 1}, rest))
        other = Run(0, filled(0, apart + 1, {0: low + 1, apart: low}, rest))
        return twins_of(line, jumble, (one, other), (0, apart))
    if jumble.lost > 0:
        return twins_of(line, jumble, (Run(0, (0,), (1,)), Run(0, (1,), (0,))), (0,))
    return twins_of(line, jumble, (Run(0, (0, 0, 1)), Run(0, (0, 1, 1))), (1,))


def crossed_runs(number, distance, early):
    """Two runs of all numbers, of which two so far apart are exchanged at neighbouring places."""
    far = number + distance
    place = max(number, far - early)
    rest = list(range(number + 1, far))
    one = filled(number, distance + 1, {place: number, place + 1: far}, rest)
    other = filled(number, distance + 1, {place: far, place + 1: number}, rest)
    return Run(number, one), Run(number, other)


def lossy_runs(number, distance, early, skipped):
    """Two runs of which each has lost a number that the other one has at its place."""
    far = number + distance
    last = far - 1 - skipped
    place = max(number, last - early)
    rest = list(range(number + skipped + 1, far))
    lost = list(range(number + 1, number + skipped + 1))
    one = filled(number, distance - skipped, {place: number}, rest)
    other = filled(number, distance - skipped, {place: far}, rest)
    return Run(number, one, lost + [far]), Run(number, other, [number] + lost)


def doubled_runs(number, distance, early, skipped):
    """Two runs of which each has a number once more where the other one has another number."""
    far = number + distance
    last = far - skipped
    place = max(number + 1, last - early)
    rest = list(range(number + skipped + 1, far))
    lost = list(range(number + 1, number + skipped + 1))
    one = filled(number, distance - skipped + 2, {number: number, place: number, last + 1: far}, rest)
    other = filled(number, distance - skipped + 2, {number: number, place: far, last + 1: far}, rest)
    return Run(number, one, lost), Run(number, other, lost)


def turned_runs(number, early, late):
    """Two runs with two unread letters, and one read place at which they differ by the spread."""
    far = number + early + late
    mid = number + early
    rest = [told for told in range(number + 1, far) if told != mid]
    many = far - number + 1
    one = filled(number, many, {number: mid, number + late: number, far: far}, rest)
    other = filled(number, many, {number: number, number + late: far, far: mid}, rest)
    return Run(number, one), Run(number, other)


def twins_at(line, jumble, distance):
    """The Twins of a line with this span, which is below the need of the jumble."""
    number = pair_at(line, distance).one.number
    skipped = max(0, distance - 1 - jumble.spread)
    if distance < jumble.spread:
        return twins_of(line, jumble, crossed_runs(number, distance, jumble.early))
    if jumble.lost > 0 and distance <= jumble.spread + jumble.lost:
        return twins_of(line, jumble, lossy_runs(number, distance, jumble.early, skipped))
    if jumble.again:
        return twins_of(line, jumble, doubled_runs(number, distance, jumble.early, skipped))
    unread = (number, number + distance)
    return twins_of(line, jumble, turned_runs(number, jumble.early, jumble.late), unread)


def check_jumble(line, jumble):
    """Raises the errors for values that are no line and no jumble."""
    check_line(line)
    if not isinstance(jumble, Jumble):
        raise BadValue("jumble")


def twins(line, jumble):
    """The Twins of a line and a jumble, None if they are forced."""
    check_jumble(line, jumble)
    if jumble.need is None:
        return unread_twins(line, jumble)
    least = span_table(line).span
    return twins_at(line, jumble, least) if least < jumble.need else None
