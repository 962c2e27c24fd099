"""Lines: a sheet, a stamp, and the stations that the letters pass."""

from jumblepost.common import is_view
from jumblepost.errors import BadLine, BadValue, NoPlacing, TooMany
from jumblepost.sheets import Sheet
from jumblepost.stamps import Stamp
from jumblepost.stations import Station
from jumblepost.views import views


def sights_at(sheet, stations):
    """For each station the Sights of its views; raises if the sheet has none at one of them."""
    sights = []
    for index, station in enumerate(stations):
        found = views(sheet, station)
        if len(found) == 0:
            raise NoPlacing(index)
        sights.append(found)
    return tuple(sights)


def joined_views(sights):
    """All combinations of the views of the stations, ascending."""
    joined = [()]
    for found in sights:
        joined = [view + sight.view for view in joined for sight in found]
    return tuple(joined)


def many_views(sights):
    """How many combinations of views there are."""
    many = 1
    for found in sights:
        many = many * len(found)
    return many


class Line:
    """A sheet, a stamp that prints its cells, and one to three stations."""

    MOST_STATIONS = 3
    MOST_VIEWS = 60

    def __init__(self, sheet, stamp, *stations):
        if not isinstance(sheet, Sheet):
            raise BadValue("sheet")
        if not isinstance(stamp, Stamp):
            raise BadValue("stamp")
        if len(stations) == 0 or not all([isinstance(station, Station) for station in stations]):
            raise BadLine("stations")
        if len(stations) > Line.MOST_STATIONS:
            raise TooMany("stations")
        if len(sheet.cells) != stamp.signs:
            raise BadLine("cells")
        sights = sights_at(sheet, stations)
        if many_views(sights) > Line.MOST_VIEWS:
            raise TooMany("views")
        self.sheet = sheet
        self.stamp = stamp
        self.stations = stations
        self.station_sights = sights
        self.views = joined_views(sights)

    def sights_of(self, view):
        """For each station the Sight with its part of a view."""
        if not is_view(view) or view not in self.views:
            raise BadValue("view")
        sights = []
        begin = 0
        for station, found in zip(self.stations, self.station_sights):
            end = begin + len(station.panes)
            sights.extend([sight for sight in found if sight.view == view[begin:end]])
            begin = end
        return tuple(sights)

    def beside(self, *stations):
        """The line with these stations behind its own ones."""
        every = self.stations + stations
        return Line(self.sheet, self.stamp, *every)

    def stamped(self, stamp):
        """The line with another stamp."""
        stations = self.stations
        return Line(self.sheet, stamp, *stations)

    def __eq__(self, other):
        return (isinstance(other, Line) and self.sheet == other.sheet
                and self.stamp == other.stamp and self.stations == other.stations)
