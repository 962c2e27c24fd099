"""Small lines, and the looks of their numbers, worked out over all placings and standings."""

import random

from jumblepost.errors import PostError
from jumblepost.lines import Line
from jumblepost.lying import zone_of
from tests import stamping
from tests.small import painted_view, random_sheet, random_station, ways


def station_views(sheet, station):
    """All views of a sheet at a station, ascending, by going through the placings."""
    placings = [places for turned in ways(station) for places in zone_of(sheet, station, turned).placings()]
    return sorted({painted_view(sheet, station, places) for places in placings})


def line_views(sheet, stations):
    """All views of a line, ascending."""
    joined = [()]
    for station in stations:
        joined = [view + more for view in joined for more in station_views(sheet, station)]
    return sorted(joined)


def look_of(view, text):
    """The look of a print by a view."""
    return tuple("".join(text[c] for c in cells) for cells in view)


def all_looks(line, number):
    """All looks that a number can show."""
    found = {look_of(view, text) for text in stamping.prints(line.stamp, number) for view in line_views(line.sheet, line.stations)}
    return sorted(found)


def small_lines(many, seed):
    """Small lines of one to three stations that can be made."""
    rand = random.Random(seed)
    found = []
    while len(found) < many:
        stamp = stamping.random_stamp(rand, 3, 3)
        sheet = random_sheet(rand, 4, stamp.signs)
        stations = [random_station(rand, sheet, 6) for _ in range(rand.choice((1, 1, 2, 3)))]
        try:
            found.append(Line(sheet, stamp, *stations))
        except PostError:
            continue
    return found
