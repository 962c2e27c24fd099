"""How a sheet lies in a station, and what is read of it there."""

from jumblepost.common import are_integers, is_series
from jumblepost.errors import BadStation, BadValue
from jumblepost.look_zones import look_placing
from jumblepost.rows import Row
from jumblepost.sheets import Sheet
from jumblepost.stations import Station
from jumblepost.zones import Zone


def check_station(sheet, station):
    """Raises the errors for values that are no sheet and no station."""
    if not isinstance(sheet, Sheet):
        raise BadValue("sheet")
    if not isinstance(station, Station):
        raise BadValue("station")


def check_pushes(sheet, station):
    """Raises the error for the first row of the station that names a point that is not there."""
    for index, row in enumerate(station.rows):
        if max(row.one, row.other) > len(sheet.panels) + 1:
            raise BadStation("row", index)


def check_way(sheet, station, turned):
    """Raises the errors that are due ahead of all that is asked of a way of lying."""
    check_station(sheet, station)
    if not isinstance(turned, bool):
        raise BadValue("turned")
    check_pushes(sheet, station)
    if turned and not station.either:
        raise BadStation("turned", 0)


def runs_right(panel, turned):
    """Whether the panel with this index runs to the right."""
    return (panel % 2 == 0) != turned


def sides_of(panel, turned):
    """The points of the left and of the right edge of the panel with this index."""
    if runs_right(panel, turned):
        return panel + 1, panel + 2
    return panel + 2, panel + 1


def hook_of(cell, turned):
    """The point on which a cell hangs, and how far from it its left and its right side lie."""
    point = cell.panel + 1 + cell.end
    near, far = cell.offset, cell.offset + cell.width
    if runs_right(cell.panel, turned) == (cell.end == 0):
        return point, near, far
    return point, -far, -near


def panels_over(sheet, cell):
    """The indexes of the panels that are ahead of the panel of a cell, the foremost first."""
    return sheet.ahead[:sheet.ahead.index(cell.panel)]


def zone_of(sheet, station, turned=False):
    """The zone of the placings of a sheet at a station, in one way of lying."""
    check_way(sheet, station, turned)
    rows = []
    for index, panel in enumerate(sheet.panels):
        left, right = sides_of(index, turned)
        rows.append(Row(right, left, panel.most))
        rows.append(Row(left, right, -panel.least))
    rows.extend(station.rows)
    return Zone(len(sheet.panels) + 2, station.width, rows)


def cell_places(sheet, places, turned=False):
    """For each cell the places of its left and of its right side."""
    if not isinstance(sheet, Sheet):
        raise BadValue("sheet")
    if not is_series(places) or len(places) != len(sheet.panels) + 2 or not are_integers(places):
        raise BadValue("places")
    if not isinstance(turned, bool):
        raise BadValue("turned")
    hooks = [hook_of(cell, turned) for cell in sheet.cells]
    return tuple([(places[point] + left, places[point] + right) for point, left, right in hooks])


def is_covered(sheet, cell, sides, places, turned):
    """Whether a cell with these sides overlaps a panel that is ahead of its own one."""
    for panel in panels_over(sheet, cell):
        left, right = sides_of(panel, turned)
        if sides[0] < places[right] and places[left] < sides[1]:
            return True
    return False


def view_there(sheet, station, places, turned):
    """The view of what is known to be a placing."""
    shown = []
    for index, sides in enumerate(cell_places(sheet, places, turned)):
        if not is_covered(sheet, sheet.cells[index], sides, places, turned):
            shown.append((sides, index))
    # No two of these overlap, so their sides tell which is further to the left.
    shown = sorted(shown)
    return tuple([
        tuple([cell for reach, cell in shown if left <= reach[0] and reach[1] <= right])
        for left, right in station.panes
    ])


def view_at(sheet, station, places, turned=False):
    """The view of a placing."""
    if not look_placing(places, zone_of(sheet, station, turned)):
        raise BadValue("places")
    return view_there(sheet, station, places, turned)
