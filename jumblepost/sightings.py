"""Sightings: how a number can show a look."""

from jumblepost.common import is_integer
from jumblepost.looks import check_number, check_numbers, is_shaped, looks, ways_shown


class Sighting:
    """A paper: a number, a standing of it, a Sight for each station, and the look that they make."""

    def __init__(self, number, standing, sights, look):
        self.number = number
        self.standing = standing
        self.sights = sights
        self.look = look

    def __eq__(self, other):
        return (isinstance(other, Sighting) and self.number == other.number
                and self.standing == other.standing and self.sights == other.sights
                and self.look == other.look)


class Alike:
    """A paper: two sightings with one look."""

    def __init__(self, one, other):
        self.one = one
        self.other = other

    @property
    def distance(self):
        """The number of the other sighting less that of the one, None if there are no such."""
        if not isinstance(self.one, Sighting) or not isinstance(self.other, Sighting):
            return None
        if not is_integer(self.one.number) or not is_integer(self.other.number):
            return None
        return self.other.number - self.one.number

    def __eq__(self, other):
        return isinstance(other, Alike) and self.one == other.one and self.other == other.other


def sighting_by(line, number, look, ways):
    """The Sighting of a look by the ways in which the number shows its looks."""
    standing, view = ways[look]
    return Sighting(number, standing, line.sights_of(view), look)


def sighting(line, number, look):
    """A Sighting of a number with a look, None if the number cannot show it."""
    check_number(line, number)
    if not is_shaped(line, look):
        return None
    ways = ways_shown(line, number)
    return sighting_by(line, number, look, ways) if look in ways else None


def sightings(line, number):
    """Yields a Sighting for each look that a number can show, ascending by look."""
    shown = looks(line, number)
    ways = ways_shown(line, number)
    for look in shown:
        yield sighting_by(line, number, look, ways)


def alike_of(line, one, other):
    """An Alike of two integers from 0 on with the least look that both can show, None if there is none."""
    ways = ways_shown(line, one)
    far_ways = ways_shown(line, other)
    look = min([told for told in ways if told in far_ways], default=None)
    if look is None:
        return None
    return Alike(sighting_by(line, one, look, ways), sighting_by(line, other, look, far_ways))


def alike(line, one, other):
    """An Alike of two numbers with the least look that both can show, None if they are not alike."""
    check_numbers(line, one, other)
    return alike_of(line, one, other)
