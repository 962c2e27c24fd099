"""Changed lines: another pane, or some of the stations alone."""

from jumblepost.common import are_integers, is_between
from jumblepost.errors import BadValue
from jumblepost.lines import Line
from jumblepost.looks import check_line
from jumblepost.stations import Station


def check_pane(line, station_at, pane_at):
    """Raises the errors for values that are no line, no index of a station and none of its panes."""
    check_line(line)
    if not is_between(station_at, 0, len(line.stations) - 1):
        raise BadValue("station_at")
    if not is_between(pane_at, 0, len(line.stations[station_at].panes) - 1):
        raise BadValue("pane_at")


def put(things, index, thing):
    """A tuple with another thing at an index."""
    return (*things[:index], thing, *things[index + 1:])


def with_pane(line, station_at, pane_at, pane):
    """The line with another pane in the place of one."""
    check_pane(line, station_at, pane_at)
    station = line.stations[station_at]
    changed = Station(station.width, put(station.panes, pane_at, pane), station.rows, station.either)
    stations = put(line.stations, station_at, changed)
    return Line(line.sheet, line.stamp, *stations)


def are_indexes(values, many):
    """Whether some values are one or more ascending indexes below many."""
    if len(values) == 0 or not are_integers(values) or not 0 <= values[0] <= values[-1] < many:
        return False
    return all([at < behind for at, behind in zip(values, values[1:])])


def at_stations(line, *stations_at):
    """The line with the stations of these indexes alone."""
    check_line(line)
    if not are_indexes(stations_at, len(line.stations)):
        raise BadValue("stations_at")
    stations = [line.stations[at] for at in stations_at]
    return Line(line.sheet, line.stamp, *stations)
