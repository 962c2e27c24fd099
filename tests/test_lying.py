"""Lying: placings against all tuples of places, views as painted panels show them, refusals."""

import random
import unittest

from jumblepost.lying import cell_places, view_at, zone_of
from jumblepost.rows import Row
from jumblepost.sheets import Cell, Panel, Sheet
from jumblepost.stations import Station
from jumblepost.zones import Zone
from tests.helpers import odd_values, raised
from tests.small import all_lying, cell_steps, painted_view, small_cases, ways

SHEET = Sheet((Panel(6, 7), Panel.firm(4)), (1, 0), (Cell(0, 0, 0, 2), Cell(0, 0, 2, 2), Cell(1, 1, 0, 2)))
STATION = Station(10, ((1, 5),))
EITHER = Station(10, ((1, 5),), (), True)


class TestPlacings(unittest.TestCase):

    def test_zone_against_all_tuples(self):
        empty = 0
        for sheet, station in small_cases(150, 21, 5):
            for turned in ways(station):
                zone = zone_of(sheet, station, turned)
                found = all_lying(sheet, station, turned)
                self.assertEqual(list(zone.placings()), found)
                self.assertEqual((zone.points, zone.width), (len(sheet.panels) + 2, station.width))
                self.assertIsInstance(zone, Zone)
                empty += not found
        self.assertGreater(empty, 10)

    def test_plain_is_the_default(self):
        self.assertEqual(zone_of(SHEET, EITHER), zone_of(SHEET, EITHER, False))
        self.assertNotEqual(zone_of(SHEET, EITHER), zone_of(SHEET, EITHER, turned=True))
        self.assertEqual(zone_of(station=STATION, sheet=SHEET), zone_of(SHEET, STATION))

    def test_views_as_painted(self):
        for sheet, station in small_cases(150, 22, 5):
            for turned in ways(station):
                for places in all_lying(sheet, station, turned):
                    self.assertEqual(view_at(sheet, station, places, turned), painted_view(sheet, station, places))

    def test_cell_places(self):
        for sheet, station in small_cases(100, 23, 5):
            for turned in ways(station):
                for places in all_lying(sheet, station, turned)[:20]:
                    steps = [cell_steps(sheet, cell, places) for cell in sheet.cells]
                    told = tuple((min(row), max(row) + 1) for row in steps)
                    self.assertEqual(cell_places(sheet, places, turned), told)
                    self.assertEqual(cell_places(sheet, list(places), turned), told)

    def test_places_that_are_no_placings(self):
        rand = random.Random(24)
        for sheet, _ in small_cases(30, 24):
            base = [rand.randint(-99, 99) for _ in range(len(sheet.panels) + 2)]
            for turned in (False, True):
                told = cell_places(sheet, base, turned)
                for cell, (left, right) in zip(sheet.cells, told):
                    self.assertEqual(right - left, cell.width)
                    here = base[cell.panel + 1 + cell.end]
                    goes_right = (cell.panel % 2 == 0) == (cell.end == 0)
                    if goes_right != turned:
                        self.assertEqual(left, here + cell.offset)
                    else:
                        self.assertEqual(right, here - cell.offset)
        self.assertEqual(cell_places(SHEET, (10 ** 60, 5, 5, 5))[0], (5, 7))


class TestRefused(unittest.TestCase):

    def test_any_values(self):
        for value in odd_values():
            self.assert_sheet_and_station(value)
            if not isinstance(value, bool):
                self.assertEqual(raised(zone_of, SHEET, EITHER, value), ("BadValue", "turned"))
                self.assertEqual(raised(view_at, SHEET, EITHER, None, value), ("BadValue", "turned"))
                self.assertEqual(raised(cell_places, SHEET, (0, 1, 7, 3), value), ("BadValue", "turned"))
            self.assertEqual(raised(view_at, SHEET, STATION, value), ("BadValue", "places"))
            self.assertEqual(raised(cell_places, SHEET, value, value), ("BadValue", "places"))

    def assert_sheet_and_station(self, value):
        if not isinstance(value, Sheet):
            self.assertEqual(raised(zone_of, value, value, value), ("BadValue", "sheet"))
            self.assertEqual(raised(view_at, value, value, value, value), ("BadValue", "sheet"))
            self.assertEqual(raised(cell_places, value, value, value), ("BadValue", "sheet"))
        if not isinstance(value, Station):
            self.assertEqual(raised(zone_of, SHEET, value, value), ("BadValue", "station"))
            self.assertEqual(raised(view_at, SHEET, value, value, value), ("BadValue", "station"))

    def test_places(self):
        self.assertIsNone(raised(view_at, SHEET, STATION, (0, 1, 7, 3)))
        wrong = ([0, 1, 7, 3], (0, 1, 7), (0, 1, 7, 3, 3), (1, 1, 7, 3), (0, 1, 9, 5), (0, 5, 11, 7), (0, True, 7, 3), (0, 1, 7, 4))
        for places in wrong:
            self.assertEqual(raised(view_at, SHEET, STATION, places), ("BadValue", "places"))
        self.assertEqual(raised(view_at, SHEET, EITHER, (0, 1, 7, 3), True), ("BadValue", "places"))
        self.assertIsNone(raised(view_at, SHEET, EITHER, (0, 7, 1, 5), True))
        for places in ((0, 1, 7), [0, 1, 7, 3, 4], (0, 1, 7, None), (0, False, 7, 3), "0173"):
            self.assertEqual(raised(cell_places, SHEET, places), ("BadValue", "places"))

    def test_rows_of_the_station(self):
        last = Row(3, 0, 9)
        beyond = Row(0, 4, 3)
        self.assertIsNone(raised(zone_of, SHEET, STATION.pushed(last)))
        for rows, index in (((beyond,), 0), ((last, last, beyond, beyond), 2), ((Row(11, 1, 0), beyond), 0)):
            for turned in (False, True):
                pushed = STATION.pushed(*rows)
                self.assertEqual(raised(zone_of, SHEET, pushed, turned), ("BadStation", "row", index))
                self.assertEqual(raised(view_at, SHEET, pushed, None, turned), ("BadStation", "row", index))
                self.assertEqual(raised(zone_of, SHEET, pushed, None), ("BadValue", "turned"))

    def test_turned_needs_either(self):
        self.assertEqual(raised(zone_of, SHEET, STATION, True), ("BadStation", "turned", 0))
        self.assertEqual(raised(view_at, SHEET, STATION, None, True), ("BadStation", "turned", 0))
        self.assertIsNone(raised(zone_of, SHEET, EITHER, True))
        self.assertIsNone(raised(cell_places, SHEET, (0, 1, 7, 3), True))


if __name__ == "__main__":
    unittest.main()
