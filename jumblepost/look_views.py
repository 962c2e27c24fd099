"""Looks at Sights and trees, node by node."""

from jumblepost.common import is_view
from jumblepost.look_zones import look_placing
from jumblepost.lying import check_pushes, check_station, check_way, view_there, zone_of
from jumblepost.rows import Row
from jumblepost.views import Sight, hooks_of, open_ask
from jumblepost.zones import is_row_below, narrowed


def is_placing_within(places, gaps):
    """Whether a placing keeps to all gaps, and so lies in their zone."""
    for one, row in enumerate(gaps):
        if not all([places[one] - place <= gap for place, gap in zip(places, row)]):
            return False
    return True


def shows_view(sight, sheet, station):
    """Whether a Sight with a right placing has the view that is seen there."""
    view = view_there(sheet, station, sight.places, sight.turned)
    return is_view(sight.view) and sight.view == view


def look_sight(sight, sheet, station):
    """Whether sight is a Sight that holds."""
    check_station(sheet, station)
    check_pushes(sheet, station)
    if not isinstance(sight, Sight) or not isinstance(sight.turned, bool):
        return False
    if sight.turned and not station.either:
        return False
    if not look_placing(sight.places, zone_of(sheet, station, sight.turned)):
        return False
    return shows_view(sight, sheet, station)


def splits(row, gaps):
    """Whether a value is a Row that holds at some placing of the zone, but not at all."""
    if not is_row_below(row, len(gaps)):
        return False
    return -gaps[row.other][row.one] <= row.most < gaps[row.one][row.other]


def is_leaf(node, sheet, station, gaps, turned):
    """Whether a node is a Sight that is right for a zone."""
    if not isinstance(node, Sight) or not isinstance(node.turned, bool) or node.turned != turned:
        return False
    if not look_placing(node.places, zone_of(sheet, station, turned)):
        return False
    if not is_placing_within(node.places, gaps) or not shows_view(node, sheet, station):
        return False
    return open_ask(gaps, station.panes, hooks_of(sheet, turned)) is None


def look_tree(tree, sheet, station, turned=False):
    """Whether tree shows all views of this way of lying."""
    check_way(sheet, station, turned)
    if not isinstance(tree, tuple):
        return False
    zone = zone_of(sheet, station, turned)
    waiting = [zone.gaps] if zone else []
    for node in tree:
        if not waiting:
            return False
        gaps = waiting.pop()
        if isinstance(node, Row):
            if not splits(node, gaps):
                return False
            waiting.append(narrowed(gaps, node.other, node.one, -node.most - 1))
            waiting.append(narrowed(gaps, node.one, node.other, node.most))
        elif not is_leaf(node, sheet, station, gaps, turned):
            return False
    return not waiting
