"""Looks at Sights and trees: right ones, other right ones, and such with one thing changed."""

import itertools
import random
import unittest

from jumblepost.look_views import look_sight, look_tree
from jumblepost.lying import zone_of
from jumblepost.rows import Row
from jumblepost.sheets import Cell, Panel, Sheet
from jumblepost.stations import Station
from jumblepost.views import Sight, each_sight, view_tree
from tests.helpers import odd_values, raised
from tests.small import painted_view, small_cases, ways
from tests.test_views import LEAVES_200, read
from tests.trees import Seen, split

FOLDED = Sheet((Panel(6, 7), Panel.firm(4)), (1, 0), (Cell(0, 0, 0, 2), Cell(0, 0, 2, 2), Cell(1, 1, 0, 2)))
STATION = Station(10, ((1, 5),))
EITHER = Station(10, ((1, 5),), (), True)


def seen_cases(many, seed):
    """Small sheets and stations, with all their placings."""
    for sheet, station in small_cases(many, seed, 5):
        for turned in ways(station):
            placings = list(zone_of(sheet, station, turned).placings())
            if len(placings) < 120:
                yield Seen(sheet, station, turned, placings)


def random_tree(seen, placings, rand, most=3):
    """A right tree that asks any rows, also such that decide nothing."""
    row = seen.open_row(placings)
    rows = []
    for one, other in itertools.permutations(range(len(seen.sheet.panels) + 2), 2):
        rows.extend([Row(one, other, most) for most in range(-5, 6)])
    rows = [told for told in rows if all(split(told, placings))] if most else []
    if row is None and (not rows or rand.random() < 0.6):
        places = rand.choice(placings)
        return [Sight(seen.view(places), places, seen.turned)]
    row = rand.choice(rows) if rows and rand.random() < 0.5 else row or rows[0]
    parts = split(row, placings)
    return [row, *random_tree(seen, parts[0], rand, max(0, most - 1)), *random_tree(seen, parts[1], rand, max(0, most - 1))]


def changed_sights(sight):
    """Sights with one thing changed."""
    view, places = sight.view, sight.places
    told = [Sight(view, places, turned) for turned in (not sight.turned, int(sight.turned), None)]
    told += [Sight(list(view), places, sight.turned), Sight(view[1:], places, sight.turned), Sight(view + ((),), places, sight.turned)]
    told += [Sight(view[1:] + view[:1], places, sight.turned), Sight(view, list(places), sight.turned), Sight(view, places[:-1], sight.turned)]
    told += [Sight(view, None, sight.turned), Sight(None, places, sight.turned), Sight(view, places + (0,), sight.turned)]
    for at, cells in enumerate(view):
        for other in (cells[::-1], cells[1:], cells + (0,), list(cells), tuple(bool(c) if c < 2 else c for c in cells)):
            told.append(Sight(view[:at] + (other,) + view[at + 1:], places, sight.turned))
    for at in range(len(places)):
        for place in (places[at] - 1, places[at] + 1, bool(places[at]), None):
            told.append(Sight(view, places[:at] + (place,) + places[at + 1:], sight.turned))
    return told


def changed_trees(tree, rand):
    """Trees with one thing changed at any place."""
    told = [list(tree), tree[:-1], tree[1:], tree + tree[-1:], tree[::-1], (tree,)]
    for at, node in enumerate(tree):
        head, rest = tree[:at], tree[at + 1:]
        told += [head + rest, head + (node, node) + rest, head + (None,) + rest, head + rest[:1] + (node,) + rest[1:]]
        if isinstance(node, Row):
            rows = (Row(node.one, node.other, node.most + 1), Row(node.one, node.other, node.most - 1), ~node, Row(11, 0, 3), Row(node.other, node.one, node.most))
            told += [head + (row,) + rest for row in rows]
        else:
            told += [head + (sight,) + rest for sight in rand.sample(changed_sights(node), 6)]
    return told


class TestSight(unittest.TestCase):

    def test_right_and_changed(self):
        for sheet, station in small_cases(60, 41, 5):
            placings = {turned: list(zone_of(sheet, station, turned).placings()) for turned in ways(station)}
            for sight in list(each_sight(sheet, station))[:6]:
                self.assertIs(look_sight(sight, sheet, station), True)
                for other in changed_sights(sight):
                    right = isinstance(other.turned, bool) and other.turned in placings and other.places in placings[other.turned]
                    right = right and type(other.places) is tuple and all(type(place) is int for place in other.places)
                    right = right and repr(painted_view(sheet, station, other.places)) == repr(other.view)
                    self.assertIs(look_sight(other, sheet, station), right)

    def test_any_placing(self):
        for sheet, station in small_cases(60, 42, 5):
            for turned in ways(station):
                for places in list(zone_of(sheet, station, turned).placings())[:30]:
                    self.assertIs(look_sight(Sight(painted_view(sheet, station, places), places, turned), sheet, station), True)

    def test_turned_needs_either(self):
        sight = [sight for sight in each_sight(FOLDED, EITHER) if sight.turned][0]
        self.assertIs(look_sight(sight, FOLDED, EITHER), True)
        self.assertIs(look_sight(sight, FOLDED, STATION), False)

    def test_any_value(self):
        for value in odd_values():
            self.assertIs(look_sight(value, FOLDED, STATION), False)
            for sight in (Sight(value, (0, 1, 7, 3), False), Sight(((0, 2),), value, False)):
                self.assertIs(look_sight(sight, FOLDED, EITHER), False)
            if value is not False:
                self.assertIs(look_sight(Sight(((0, 2),), (0, 1, 7, 3), value), FOLDED, EITHER), False)
        self.assertIs(look_sight(station=STATION, sheet=FOLDED, sight=Sight(((0, 2),), (0, 1, 7, 3), False)), True)

    def test_refused(self):
        pushed = STATION.pushed(Row(3, 0, 9), Row(4, 1, 9))
        for value in odd_values():
            if not isinstance(value, Sheet):
                self.assertEqual(raised(look_sight, value, value, value), ("BadValue", "sheet"))
            if not isinstance(value, Station):
                self.assertEqual(raised(look_sight, value, FOLDED, value), ("BadValue", "station"))
            self.assertEqual(raised(look_sight, value, FOLDED, pushed), ("BadStation", "row", 1))


class TestTree(unittest.TestCase):

    def test_right_trees(self):
        for seen in seen_cases(150, 43):
            told = view_tree(seen.sheet, seen.station, seen.turned)
            self.assertIs(look_tree(told, seen.sheet, seen.station, seen.turned), True)
            if seen.placings:
                self.assertIs(look_tree((), seen.sheet, seen.station, seen.turned), False)
            else:
                self.assertIs(look_tree((Sight(((),), (0,), False),), seen.sheet, seen.station, seen.turned), False)
                self.assertIs(look_tree((Row(1, 0, 2),), seen.sheet, seen.station, seen.turned), False)

    def test_other_orders_and_placings(self):
        for seen in seen_cases(100, 44):
            cells = list(range(len(seen.sheet.cells)))[::-1]
            tree = tuple(seen.tree(seen.placings, cells, False))
            self.assertIs(look_tree(tree, seen.sheet, seen.station, seen.turned), True)

    def test_other_rows(self):
        rand = random.Random(45)
        for seen in seen_cases(80, 45):
            if seen.placings:
                tree = tuple(random_tree(seen, seen.placings, rand))
                self.assertTrue(seen.is_right(tree))
                self.assertIs(look_tree(tree, seen.sheet, seen.station, seen.turned), True)

    def test_changed(self):
        rand = random.Random(46)
        right = wrong = 0
        for seen in seen_cases(45, 46):
            if not seen.placings or len(seen.placings) > 50:
                continue
            for tree in (view_tree(seen.sheet, seen.station, seen.turned), tuple(random_tree(seen, seen.placings, rand, 1))):
                for other in changed_trees(tree, rand):
                    told = seen.is_right(other)
                    self.assertIs(look_tree(other, seen.sheet, seen.station, seen.turned), told)
                    right, wrong = right + told, wrong + (not told)
        self.assertTrue(right > 20 and wrong > 1000, (right, wrong))

    def test_great_tree(self):
        sheet, station = read(LEAVES_200)
        tree = view_tree(sheet, station)
        self.assertIs(look_tree(tree, sheet, station), True)
        self.assertIs(look_tree(tree[:-1], sheet, station), False)
        self.assertIs(look_tree(tree + tree, sheet, station), False)

    def test_deep_tree(self):
        sheet = Sheet((Panel(1, 1),), (0,), (Cell(0, 0, 0),))
        station = Station(60, ((0, 60),))
        nodes = []
        for place in range(59, 0, -1):
            nodes.append(Row(1, 0, place - 1))
        tree = (*nodes, *[Sight(((0,),), (0, place, place + 1), False) for place in range(60)])
        self.assertIs(look_tree(tree, sheet, station), True)
        self.assertIs(look_tree(tree[1:], sheet, station), False)

    def test_any_value(self):
        for value in odd_values():
            self.assertIs(look_tree(value, FOLDED, STATION), False)
            self.assertIs(look_tree((value,), FOLDED, STATION), False)
            self.assertIs(look_tree((Row(1, 0, 2), value), FOLDED, STATION), False)
        tree = view_tree(FOLDED, EITHER, True)
        self.assertIs(look_tree(turned=True, station=EITHER, sheet=FOLDED, tree=tree), True)
        self.assertIs(look_tree(tree, FOLDED, EITHER), False)

    def test_refused(self):
        pushed = STATION.pushed(Row(3, 0, 9), Row(4, 1, 9))
        for value in odd_values():
            if not isinstance(value, Sheet):
                self.assertEqual(raised(look_tree, value, value, value, value), ("BadValue", "sheet"))
            if not isinstance(value, Station):
                self.assertEqual(raised(look_tree, value, FOLDED, value, value), ("BadValue", "station"))
            if not isinstance(value, bool):
                self.assertEqual(raised(look_tree, value, FOLDED, pushed, value), ("BadValue", "turned"))
            self.assertEqual(raised(look_tree, value, FOLDED, pushed, True), ("BadStation", "row", 1))
            self.assertEqual(raised(look_tree, value, FOLDED, STATION, True), ("BadStation", "turned", 0))


if __name__ == "__main__":
    unittest.main()
