"""Trees and views: all that can be read of a sheet at a station."""

from jumblepost.common import is_between
from jumblepost.errors import BadValue, TooMany
from jumblepost.lying import check_pushes, check_station, check_way, hook_of, panels_over
from jumblepost.lying import sides_of, view_there, zone_of
from jumblepost.rows import Row
from jumblepost.zones import highest_of, lowest_of, narrowed

MOST_LEAVES = 200
MOST_STATION_VIEWS = 40


class Sight:
    """A paper: a view, a placing that shows it, and whether the letter lies turned."""

    def __init__(self, view, places, turned):
        self.view = view
        self.places = places
        self.turned = turned

    def __eq__(self, other):
        return (isinstance(other, Sight) and self.view == other.view
                and self.places == other.places and self.turned == other.turned)


def answer(gaps, ask):
    """Whether a comparison (one, other, most) holds at all placings; None if at some alone.

    For one point twice the gap is 0, so the number of the comparison decides.
    """
    one, other, most = ask
    if gaps[one][other] <= most:
        return True
    return False if -gaps[other][one] > most else None


def first_unheld(gaps, asks):
    """The first comparison that does not hold at all placings, None if all do."""
    for ask in asks:
        if answer(gaps, ask) is not True:
            return ask
    return None


def open_cover(gaps, hook, covers):
    """The first open comparison of a cell with the panels ahead, None if its cover is decided."""
    point, left, right = hook
    for begin, end in covers:
        for ask in ((point, begin, -right), (end, point, left)):
            held = answer(gaps, ask)
            if held is None:
                return ask
            if held:
                break
        else:
            # The cell is covered by this panel, so no other one is asked.
            return None
    return None


def open_reading(gaps, panes, hook, covers):
    """The first open comparison of a cell, None if it is decided where it is read."""
    point, left, right = hook
    for begin, end in panes:
        ask = first_unheld(gaps, ((0, point, left - begin), (point, 0, end - right)))
        if ask is None:
            return open_cover(gaps, hook, covers)
        if answer(gaps, ask) is None:
            return ask
    return None


def hooks_of(sheet, turned):
    """For each cell its hook, and the points of the sides of the panels ahead of it."""
    return [
        (hook_of(cell, turned), [sides_of(panel, turned) for panel in panels_over(sheet, cell)])
        for cell in sheet.cells
    ]


def open_ask(gaps, panes, hooks):
    """The first comparison of all cells that is open, None if what is read is decided."""
    for hook, covers in hooks:
        ask = open_reading(gaps, panes, hook, covers)
        if ask is not None:
            return ask
    return None


def grown(sheet, station, turned):
    """The nodes of the tree, each with the gaps of its zone."""
    hooks = hooks_of(sheet, turned)
    zone = zone_of(sheet, station, turned)
    waiting = [zone.gaps] if zone else []
    nodes = []
    leaves = 0
    while waiting:
        gaps = waiting.pop()
        ask = open_ask(gaps, station.panes, hooks)
        if ask is None:
            places = lowest_of(gaps)
            nodes.append((Sight(view_there(sheet, station, places, turned), places, turned), gaps))
            leaves += 1
        else:
            one, other, most = ask
            nodes.append((Row(one, other, most), gaps))
            waiting.append(narrowed(gaps, other, one, -most - 1))
            waiting.append(narrowed(gaps, one, other, most))
        # Each zone that waits has a placing, so it brings a Sight at least.
        if leaves + len(waiting) > MOST_LEAVES:
            raise TooMany("leaves")
    return nodes


def grown_leaves(sheet, station):
    """The Sights of all ways of lying, plain ones first, each with the gaps of its zone."""
    nodes = grown(sheet, station, False)
    if station.either:
        nodes.extend(grown(sheet, station, True))
    return [(node, gaps) for node, gaps in nodes if isinstance(node, Sight)]


def view_tree(sheet, station, turned=False):
    """The tree of a sheet at a station, in one way of lying."""
    check_way(sheet, station, turned)
    return tuple([node for node, _ in grown(sheet, station, turned)])


def each_sight(sheet, station):
    """Yields the Sights of the plain tree, then those of the turned one if there is one."""
    check_station(sheet, station)
    check_pushes(sheet, station)
    for sight, _ in grown_leaves(sheet, station):
        yield sight


def views(sheet, station):
    """A Sight for each view, ascending by view."""
    table = {}
    for sight in each_sight(sheet, station):
        if sight.view not in table:
            table[sight.view] = sight
    if len(table) > MOST_STATION_VIEWS:
        raise TooMany("views")
    return tuple([table[view] for view in sorted(table)])


def is_view_at(view, sheet, station):
    """Whether any value has, for each pane, a tuple of indexes of cells."""
    if not isinstance(view, tuple) or len(view) != len(station.panes):
        return False
    if not all([isinstance(cells, tuple) for cells in view]):
        return False
    return all([is_between(cell, 0, len(sheet.cells) - 1) for cells in view for cell in cells])


def edge_ranges(sheet, station, view):
    """For each edge its least and greatest place where the view is shown, None if it is not."""
    check_station(sheet, station)
    if not is_view_at(view, sheet, station):
        raise BadValue("view")
    check_pushes(sheet, station)
    zones = [gaps for sight, gaps in grown_leaves(sheet, station) if sight.view == view]
    if not zones:
        return None
    lows = [lowest_of(gaps) for gaps in zones]
    highs = [highest_of(gaps) for gaps in zones]
    return tuple([
        (min([places[point] for places in lows]), max([places[point] for places in highs]))
        for point in range(1, len(sheet.panels) + 2)
    ])
