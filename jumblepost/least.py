"""Least designs: the narrowest pane and the fewest stations that are enough."""

from jumblepost.changes import at_stations, check_pane, with_pane
from jumblepost.common import few_of
from jumblepost.errors import BadValue
from jumblepost.forced import decide
from jumblepost.jumbles import Jumble
from jumblepost.spans import span
from jumblepost.twins import Twins, check_jumble


class Least:
    """A paper, false without an amount: the least amount that is forced, and the Twins ahead of it."""

    def __init__(self, amount, forced, lesser):
        self.amount = amount
        self.forced = forced
        self.lesser = lesser

    def __eq__(self, other):
        return (isinstance(other, Least) and self.amount == other.amount
                and self.forced == other.forced and self.lesser == other.lesser)

    def __bool__(self):
        return self.amount is not None


def widest_pane(line, station_at, pane_at):
    """The greatest width with which a pane has a bar behind it, or ends with its envelope."""
    station = line.stations[station_at]
    left, _ = station.panes[pane_at]
    if pane_at + 1 < len(station.panes):
        return station.panes[pane_at + 1][0] - 1 - left
    return station.width - left


def with_width(line, station_at, pane_at, width):
    """The line in which a pane has the same left side and this width."""
    left, _ = line.stations[station_at].panes[pane_at]
    return with_pane(line, station_at, pane_at, (left, left + width))


def pane_spans(line, station_at, pane_at):
    """Yields the pairs (width, span) for each width that a pane can have, ascending."""
    check_pane(line, station_at, pane_at)
    for width in range(1, widest_pane(line, station_at, pane_at) + 1):
        yield width, span(with_width(line, station_at, pane_at, width))


def least_pane(line, station_at, pane_at, jumble):
    """The Least of the widths of a pane with which a line and a jumble are forced."""
    check_pane(line, station_at, pane_at)
    if not isinstance(jumble, Jumble):
        raise BadValue("jumble")
    lesser = []
    for width in range(1, widest_pane(line, station_at, pane_at) + 1):
        paper = decide(with_width(line, station_at, pane_at, width), jumble)
        if not isinstance(paper, Twins):
            return Least(width, paper, tuple(lesser))
        lesser.append(paper)
    return Least(None, None, tuple(lesser))


def station_choices(line):
    """All tuples of ascending indexes of the stations of a line, by length and then in order."""
    many = len(line.stations)
    return few_of(list(range(many)), many)


def fewest_stations(line, jumble):
    """The Least of the tuples of stations with which a line and a jumble are forced."""
    check_jumble(line, jumble)
    lesser = []
    for choice in station_choices(line):
        paper = decide(at_stations(line, *choice), jumble)
        if not isinstance(paper, Twins):
            return Least(choice, paper, tuple(lesser))
        lesser.append(paper)
    return Least(None, None, tuple(lesser))
