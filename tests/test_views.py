"""Trees and views: node by node against all placings, the bounds of both, ranges of edges."""

import time
import unittest

from jumblepost.lying import zone_of
from jumblepost.rows import Row
from jumblepost.sheets import Cell, Panel, Sheet
from jumblepost.stations import Station
from jumblepost.views import Sight, each_sight, edge_ranges, view_tree, views
from tests.helpers import odd_values, raised
from tests.small import all_lying, painted_view, small_cases, ways
from tests.trees import Seen

LEAVES_200 = ("sheet 3 11 21 12 22 9 9 ahead 1 2 0 cells 9 1 0 8 3 0 1 0 1 0 1 2 1 2 1 7 1 1 0 3 1 0 0 2 3 1 0 4 1 0 0 7 1 2 0 4 2", "station 33 panes 3 2 12 20 22 23 30 rows 0 plain")
LEAVES_201 = ("sheet 2 11 21 9 19 ahead 0 1 cells 7 0 0 1 3 1 0 4 1 1 1 0 2 1 0 2 2 0 0 8 1 0 1 1 1 1 1 3 1", "station 24 panes 3 2 4 9 14 16 18 rows 0 plain")
LEAVES_200_200 = ("sheet 4 5 8 3 13 7 8 3 4 ahead 3 2 0 1 cells 5 0 0 4 1 3 1 2 1 2 0 2 3 2 0 0 1 0 0 0 1", "station 40 panes 3 3 6 10 14 16 27 rows 0 either")
LEAVES_200_204 = ("sheet 4 9 9 5 15 2 12 6 9 ahead 3 0 2 1 cells 7 3 0 1 2 0 1 5 1 0 0 0 1 0 0 6 3 3 0 4 1 1 0 3 1 1 0 0 2", "station 39 panes 3 13 17 24 28 35 37 rows 0 either")
LEAVES_201_182 = ("sheet 3 3 6 7 10 5 15 ahead 0 1 2 cells 5 1 1 5 1 2 1 0 1 1 0 0 1 0 0 0 1 2 0 0 3", "station 20 panes 3 1 7 9 10 14 16 rows 0 either")
LEAVES_200_188 = ("sheet 3 12 22 9 19 3 3 ahead 1 2 0 cells 9 0 0 2 1 0 1 0 1 1 0 6 2 0 1 2 1 0 0 0 1 0 1 4 3 1 0 1 3 0 1 7 2 2 0 1 1", "station 33 panes 3 1 11 12 13 14 17 rows 0 either")
VIEWS_40 = ("sheet 4 3 4 6 6 6 9 10 10 ahead 0 2 3 1 cells 8 0 0 0 2 2 1 1 1 3 1 2 1 2 1 0 1 1 1 0 2 0 0 2 1 2 1 2 1 3 0 4 1", "station 21 panes 3 2 5 7 9 11 17 rows 0 plain")
VIEWS_40_EITHER = ("sheet 4 6 7 4 5 4 14 12 15 ahead 0 1 3 2 cells 7 1 1 0 2 0 0 3 2 2 1 0 1 3 0 7 3 2 0 0 3 0 0 0 1 3 0 0 3", "station 22 panes 3 1 8 12 16 17 22 rows 0 either")
VIEWS_41 = ("sheet 1 12 22 ahead 0 cells 6 0 0 6 1 0 1 0 2 0 0 2 2 0 1 4 1 0 0 0 2 0 0 5 1", "station 27 panes 3 6 10 11 15 20 22 rows 0 plain")
VIEWS_41_EITHER = ("sheet 4 4 5 2 3 5 8 12 13 ahead 1 2 0 3 cells 7 3 0 6 3 3 1 1 1 1 1 1 1 0 0 0 3 3 0 4 2 3 0 3 1 2 1 0 1", "station 22 panes 2 8 12 13 22 rows 0 either")
LEAVES_AND_VIEWS = ("sheet 3 10 20 8 18 3 6 ahead 2 0 1 cells 5 0 0 5 1 1 1 3 2 0 1 3 1 0 1 0 3 0 0 4 1", "station 26 panes 3 0 2 4 15 17 20 rows 0 plain")

FOLDED = Sheet((Panel(6, 7), Panel.firm(4)), (1, 0), (Cell(0, 0, 0, 2), Cell(0, 0, 2, 2), Cell(1, 1, 0, 2)))
STATION = Station(10, ((1, 5),))


def read(texts):
    return Sheet.read(texts[0]), Station.read(texts[1])


def leaves(tree):
    return len([node for node in tree if isinstance(node, Sight)])


class TestTrees(unittest.TestCase):

    def test_node_by_node(self):
        empty = 0
        for sheet, station in small_cases(250, 31, 6):
            for turned in ways(station):
                placings = all_lying(sheet, station, turned) if len(sheet.panels) < 4 else list(zone_of(sheet, station, turned).placings())
                tree = view_tree(sheet, station, turned)
                self.assertIsInstance(tree, tuple)
                self.assertEqual(list(tree), Seen(sheet, station, turned, placings).tree(placings))
                for sight in tree:
                    self.assertTrue(isinstance(sight, Row) or sight.turned is turned)
                empty += not placings
        self.assertGreater(empty, 10)

    def test_plain_is_the_default(self):
        station = Station(10, ((1, 5),), (), True)
        self.assertEqual(view_tree(FOLDED, station), view_tree(FOLDED, station, turned=False))
        self.assertNotEqual(view_tree(FOLDED, station), view_tree(FOLDED, station, True))

    def test_no_placing(self):
        station = Station(5, ((1, 5),), (), True)
        self.assertEqual((view_tree(FOLDED, station), view_tree(FOLDED, station, True)), ((), ()))
        self.assertEqual((list(each_sight(FOLDED, station)), views(FOLDED, station)), ([], ()))
        self.assertIsNone(edge_ranges(FOLDED, station, ((),)))
        shut = Station(10, ((1, 5),), (Row(1, 0, -1),))
        self.assertEqual(view_tree(FOLDED, shut), ())

    def test_great_trees_node_by_node(self):
        for texts, many in ((LEAVES_200, 200), (VIEWS_41, 54)):
            sheet, station = read(texts)
            placings = list(zone_of(sheet, station).placings())
            tree = Seen(sheet, station, False, placings).tree(placings)
            self.assertEqual(leaves(tree), many)
            self.assertEqual(list(view_tree(sheet, station)), tree)
        sheet, station = read(LEAVES_201)
        placings = list(zone_of(sheet, station).placings())
        self.assertEqual(leaves(Seen(sheet, station, False, placings).tree(placings)), 201)
        self.assertEqual(raised(view_tree, sheet, station), ("TooMany", "leaves"))


class TestViews(unittest.TestCase):

    def test_against_all_placings(self):
        for sheet, station in small_cases(250, 32, 6):
            found = [painted_view(sheet, station, places) for turned in ways(station) for places in zone_of(sheet, station, turned).placings()]
            told = views(sheet, station)
            self.assertIsInstance(told, tuple)
            self.assertEqual([sight.view for sight in told], sorted(set(found)))
            every = list(each_sight(sheet, station))
            for sight in told:
                self.assertEqual(sight, [other for other in every if other.view == sight.view][0])

    def test_each_sight_in_the_order_of_the_trees(self):
        for sheet, station in small_cases(100, 33, 6):
            nodes = [node for turned in ways(station) for node in view_tree(sheet, station, turned)]
            self.assertEqual(list(each_sight(sheet, station)), [node for node in nodes if isinstance(node, Sight)])

    def test_sights_are_placings_with_this_view(self):
        for sheet, station in small_cases(100, 34, 6):
            for sight in each_sight(sheet, station):
                self.assertIn(sight.places, list(zone_of(sheet, station, sight.turned).placings()))
                self.assertEqual(sight.view, painted_view(sheet, station, sight.places))

    def test_ranges_against_all_placings(self):
        for sheet, station in small_cases(150, 35, 6):
            shown = {}
            for turned in ways(station):
                for places in zone_of(sheet, station, turned).placings():
                    shown.setdefault(painted_view(sheet, station, places), []).append(places[1:])
            for view, rows in shown.items():
                told = tuple((min(column), max(column)) for column in zip(*rows))
                self.assertEqual(edge_ranges(sheet, station, view), told)
            others = [tuple(cells[::-1] for cells in view) for view in shown] + [tuple((0,) for _ in station.panes)]
            for view in others:
                self.assertEqual(edge_ranges(sheet, station, view) is None, view not in shown)

    def test_views_that_are_none(self):
        self.assertIsNone(edge_ranges(FOLDED, STATION, ((0, 0, 0),)))
        self.assertIsNone(edge_ranges(view=((1,),), station=STATION, sheet=FOLDED))
        wrong = [(), ((0,), (1,)), ((3,),), ((-1,),), ((True,),), ([0],), [(0,)], ((0, None),), (0,), ((0, "1"),)]
        for value in wrong + [value for value in odd_values() if value != ((),)]:
            self.assertEqual(raised(edge_ranges, FOLDED, STATION, value), ("BadValue", "view"))
        self.assertEqual(edge_ranges(FOLDED, STATION, ((0, 2),)), ((1, 1), (7, 7), (3, 3)))


class TestBounds(unittest.TestCase):

    def test_200_leaves_and_more(self):
        for texts, turned, many in ((LEAVES_200, False, 200), (LEAVES_200_200, False, 200), (LEAVES_200_200, True, 200), (LEAVES_200_204, False, 200), (LEAVES_201_182, True, 182)):
            self.assertEqual(leaves(view_tree(*read(texts), turned)), many)
        for texts, turned in ((LEAVES_201, False), (LEAVES_200_204, True), (LEAVES_201_182, False)):
            self.assertEqual(raised(view_tree, *read(texts), turned), ("TooMany", "leaves"))

    def test_each_tree_counts_by_itself(self):
        self.assertEqual(len(list(each_sight(*read(LEAVES_200_200)))), 400)
        self.assertEqual(len(list(each_sight(*read(LEAVES_200_188)))), 388)
        self.assertEqual(len(views(*read(LEAVES_200_188))), 37)

    def test_raised_ahead_of_the_first_sight(self):
        for texts in (LEAVES_201, LEAVES_201_182, LEAVES_200_204):
            steps = each_sight(*read(texts))
            self.assertEqual(raised(next, steps), ("TooMany", "leaves"))
            self.assertEqual(raised(views, *read(texts)), ("TooMany", "leaves"))
        view = ((), (), ())
        self.assertEqual(raised(edge_ranges, *read(LEAVES_200_204), view), ("TooMany", "leaves"))
        self.assertEqual(raised(edge_ranges, *read(LEAVES_200_204), None), ("BadValue", "view"))

    def test_40_views_and_more(self):
        for texts in (VIEWS_40, VIEWS_40_EITHER):
            told = views(*read(texts))
            self.assertEqual((len(told), [sight.view for sight in told]), (40, sorted(sight.view for sight in told)))
        for texts in (VIEWS_41, VIEWS_41_EITHER, LEAVES_200_200):
            self.assertEqual(raised(views, *read(texts)), ("TooMany", "views"))
            self.assertIsNone(raised(list, each_sight(*read(texts))))

    def test_both_at_once(self):
        self.assertEqual(raised(views, *read(LEAVES_AND_VIEWS)), ("TooMany", "leaves"))

    def test_at_once(self):
        begin = time.monotonic()
        sheet = Sheet([Panel(1, 60)] * 4, (3, 1, 0, 2), [Cell(p, 0, 0) for p in range(4)])
        station = Station(60, ((1, 20), (22, 40), (42, 59)), (), True)
        self.assertEqual(raised(views, sheet, station), ("TooMany", "leaves"))
        self.assertLess(time.monotonic() - begin, 5)


class TestRefused(unittest.TestCase):

    def test_any_values(self):
        for value in odd_values():
            for call in (view_tree, views, edge_ranges, lambda *told: next(each_sight(*told[:2]))):
                more = (value,) if call in (view_tree, edge_ranges) else ()
                if not isinstance(value, Sheet):
                    self.assertEqual(raised(call, value, value, *more), ("BadValue", "sheet"))
                if not isinstance(value, Station):
                    self.assertEqual(raised(call, FOLDED, value, *more), ("BadValue", "station"))
            if not isinstance(value, bool):
                self.assertEqual(raised(view_tree, FOLDED, STATION, value), ("BadValue", "turned"))

    def test_rows_that_name_no_point(self):
        station = Station(10, ((1, 5),), (Row(3, 0, 9), Row(4, 0, 9), Row(11, 0, 1)))
        told = ("BadStation", "row", 1)
        self.assertEqual(raised(view_tree, FOLDED, station), told)
        self.assertEqual(raised(view_tree, FOLDED, station, True), told)
        self.assertEqual(raised(views, FOLDED, station), told)
        self.assertEqual(raised(next, each_sight(FOLDED, station)), told)
        self.assertEqual(raised(edge_ranges, FOLDED, station, ((0,),)), told)
        self.assertEqual(raised(edge_ranges, FOLDED, station, None), ("BadValue", "view"))

    def test_turned_needs_either(self):
        self.assertEqual(raised(view_tree, FOLDED, STATION, True), ("BadStation", "turned", 0))


class TestSight(unittest.TestCase):

    def test_paper_of_any_values(self):
        for value in odd_values():
            sight = Sight(value, 1, None)
            self.assertEqual((sight.view, sight.places, sight.turned), (value, 1, None))
            self.assertEqual(sight, Sight(turned=None, places=1, view=value))
            self.assertTrue(sight)
            for other in (Sight(value, 2, None), Sight(value, 1, False), Sight((value, 7), 1, None), value):
                self.assertNotEqual(sight, other)


if __name__ == "__main__":
    unittest.main()
