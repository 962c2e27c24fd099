"""Lines: views, sights, errors in their order, and lines made of others."""

import itertools
import unittest

from jumblepost.lines import Line
from jumblepost.rows import Row
from jumblepost.sheets import Cell, Panel, Sheet
from jumblepost.stamps import Stamp
from jumblepost.stations import Station
from jumblepost.views import views
from jumblepost.wheels import Wheel
from tests.helpers import odd_values, raised
from tests.small_lines import line_views, small_lines
from tests.test_views import LEAVES_200_188, LEAVES_201, LEAVES_AND_VIEWS, VIEWS_40, VIEWS_41, read

STRIP = Sheet((Panel.firm(12),), (0,), [Cell(0, 0, k) for k in range(12)])
TWELVE = Stamp(*[Wheel(("aa", "bb")) for _ in range(6)])
PAIR = Sheet((Panel.firm(2),), (0,), (Cell(0, 0, 0), Cell(0, 0, 1)))
TWO = Stamp.digits(2, 3)


def sliding(many, **more):
    """A station in which the strip has so many views: one sign is read, always another one."""
    return Station(11 + many, ((11, 12),), **more)


def stamp_for(sheet):
    """A stamp that prints as many signs as a sheet has cells."""
    signs = len(sheet.cells)
    wheels = [Wheel(("aaaa", "bbbb")) for _ in range(signs // 4)]
    if signs % 4:
        wheels.append(Wheel(("a" * (signs % 4), "b" * (signs % 4))))
    return Stamp(*wheels)


class TestViews(unittest.TestCase):

    def test_against_all_placings(self):
        lengths = set()
        for line in small_lines(60, 71):
            self.assertEqual(list(line.views), line_views(line.sheet, line.stations))
            self.assertIsInstance(line.views, tuple)
            lengths.add(len(line.stations))
        self.assertEqual(lengths, {1, 2, 3})

    def test_attributes(self):
        stations = (sliding(3), sliding(2))
        line = Line(STRIP, TWELVE, *stations)
        self.assertEqual((line.sheet, line.stamp, line.stations), (STRIP, TWELVE, stations))
        self.assertIsInstance(line.stations, tuple)
        self.assertEqual((Line.MOST_STATIONS, Line.MOST_VIEWS), (3, 60))
        self.assertEqual(line.views, (((9,), (10,)), ((9,), (11,)), ((10,), (10,)), ((10,), (11,)), ((11,), (10,)), ((11,), (11,))))

    def test_sights(self):
        for line in small_lines(40, 72):
            for view in line.views:
                told = line.sights_of(view)
                self.assertIsInstance(told, tuple)
                self.assertEqual(len(told), len(line.stations))
                self.assertEqual(sum([sight.view for sight in told], ()), view)
                for sight, station in zip(told, line.stations):
                    self.assertIn(sight, views(line.sheet, station))
                self.assertEqual(line.sights_of(view=view), told)

    def test_sights_of_what_is_no_view(self):
        line = Line(PAIR, TWO, Station(3, ((0, 2),)), Station(2, ((0, 2),)))
        self.assertEqual(line.views, (((0,), (0, 1)), ((0, 1), (0, 1))))
        wrong = [((0,),), ((0,), (0,)), ((0, 1), (0, 1), ()), [(0,), (0, 1)], ((0,), [0, 1]), ((False,), (0, 1)), ((0,), (0, True)), ((1,), (0, 1)), ((0,), (1, 0))]
        for value in wrong + odd_values():
            self.assertEqual(raised(line.sights_of, value), ("BadValue", "view"))


class TestErrors(unittest.TestCase):

    def test_kinds(self):
        station = sliding(1)
        for value in odd_values():
            if not isinstance(value, Sheet):
                self.assertEqual(raised(Line, value, value, value), ("BadValue", "sheet"))
                self.assertEqual(raised(Line, value, value), ("BadValue", "sheet"))
            if not isinstance(value, Stamp):
                self.assertEqual(raised(Line, STRIP, value), ("BadValue", "stamp"))
                self.assertEqual(raised(Line, STRIP, value, value), ("BadValue", "stamp"))
            if not isinstance(value, Station):
                self.assertEqual(raised(Line, PAIR, TWELVE, value), ("BadLine", "stations"))
                self.assertEqual(raised(Line, PAIR, TWELVE, *[station] * 7, value), ("BadLine", "stations"))
        self.assertEqual(raised(Line, PAIR, TWELVE), ("BadLine", "stations"))

    def test_stations_and_cells(self):
        self.assertEqual(raised(Line, PAIR, TWELVE, *[sliding(1)] * 4), ("TooMany", "stations"))
        self.assertIsNone(raised(Line, STRIP, TWELVE, *[sliding(1)] * 3))
        self.assertEqual(raised(Line, STRIP, TWELVE, *[sliding(1)] * 4), ("TooMany", "stations"))
        bad = sliding(1, rows=(Row(9, 0, 1),))
        self.assertEqual(raised(Line, PAIR, TWELVE, bad), ("BadLine", "cells"))
        self.assertEqual(raised(Line, STRIP, TWO, bad), ("BadLine", "cells"))

    def test_one_station_behind_another(self):
        sheet, crowded = read(LEAVES_201)
        stamp = stamp_for(sheet)
        bad = Station(50, ((0, 1),), (Row(1, 0, 9), Row(4, 0, 1)))
        tight = Station(5, ((0, 1),))
        fine = Station(25, ((0, 1),), (Row(1, 0, 0),))
        told = {"crowded": ("TooMany", "leaves"), "bad": ("BadStation", "row", 1), "tight": ("NoPlacing",)}
        kinds = {"crowded": crowded, "bad": bad, "tight": tight}
        for one, other in itertools.product(kinds, repeat=2):
            first = told[one] + ((0,) if one == "tight" else ())
            later = told[one] + ((1,) if one == "tight" else ())
            self.assertEqual(raised(Line, sheet, stamp, kinds[one], kinds[other]), first)
            self.assertEqual(raised(Line, sheet, stamp, fine, kinds[one], kinds[other]), later)
        self.assertEqual(raised(Line, sheet, stamp, fine, fine, tight), ("NoPlacing", 2))
        self.assertIsNone(raised(Line, sheet, stamp, fine, fine, fine))

    def test_views_of_one_station(self):
        sheet, station = read(VIEWS_41)
        tight = Station(5, ((0, 1),))
        self.assertEqual(raised(Line, sheet, stamp_for(sheet), station), ("TooMany", "views"))
        self.assertEqual(raised(Line, sheet, stamp_for(sheet), station, tight), ("TooMany", "views"))
        self.assertEqual(raised(Line, sheet, stamp_for(sheet), tight, station), ("NoPlacing", 0))
        for texts, told in ((LEAVES_AND_VIEWS, ("TooMany", "leaves")), (VIEWS_40, None), (LEAVES_200_188, None)):
            sheet, station = read(texts)
            self.assertEqual(raised(Line, sheet, stamp_for(sheet), station), told)
        sheet, station = read(VIEWS_40)
        line = Line(sheet, stamp_for(sheet), station)
        self.assertEqual(len(line.views), 40)
        self.assertEqual(raised(line.beside, station), ("TooMany", "views"))
        self.assertEqual(raised(line.beside, station, tight), ("NoPlacing", 2))

    def test_either_way_is_enough(self):
        pushed = (Row(2, 1, -1),)
        self.assertEqual(raised(Line, PAIR, TWO, Station(3, ((0, 2),), pushed)), ("NoPlacing", 0))
        line = Line(PAIR, TWO, Station(3, ((0, 2),), pushed, True))
        self.assertEqual([sight.turned for view in line.views for sight in line.sights_of(view)], [True, True])
        self.assertEqual(raised(Line, PAIR, TWO, Station(3, ((0, 2),), (Row(1, 2, 1), Row(2, 1, 1)), True)), ("NoPlacing", 0))

    def test_60_views_and_more(self):
        for counts in ((10, 6), (12, 5), (5, 4, 3), (12, 5, 1)):
            line = Line(STRIP, TWELVE, *[sliding(many) for many in counts])
            self.assertEqual((len(line.views), list(line.views)), (60, sorted(set(line.views))))
        for counts in ((9, 7), (11, 6), (12, 12), (4, 4, 4)):
            self.assertEqual(raised(Line, STRIP, TWELVE, *[sliding(many) for many in counts]), ("TooMany", "views"))
        tight = Station(5, ((0, 1),))
        self.assertEqual(raised(Line, STRIP, TWELVE, sliding(9), sliding(7), tight), ("NoPlacing", 2))


class TestOthers(unittest.TestCase):

    def test_beside(self):
        line = Line(STRIP, TWELVE, sliding(2))
        more = line.beside(sliding(3), sliding(1))
        self.assertEqual(more, Line(STRIP, TWELVE, sliding(2), sliding(3), sliding(1)))
        self.assertEqual(line.beside(), line)
        self.assertEqual((len(line.stations), len(more.views)), (1, 6))
        self.assertEqual(raised(more.beside, sliding(1)), ("TooMany", "stations"))
        self.assertEqual(raised(more.beside, sliding(1), None), ("BadLine", "stations"))
        for value in odd_values():
            if not isinstance(value, Station):
                self.assertEqual(raised(line.beside, value), ("BadLine", "stations"))
        self.assertEqual(raised(line.beside, Station(5, ((0, 1),))), ("NoPlacing", 1))

    def test_stamped(self):
        line = Line(PAIR, TWO, Station(3, ((0, 2),)))
        other = line.stamped(Stamp.digits(5, 5))
        self.assertEqual(other, Line(PAIR, Stamp.digits(5, 5), Station(3, ((0, 2),))))
        self.assertEqual(line.stamped(stamp=TWO), line)
        self.assertEqual(raised(line.stamped, Stamp.digits(5)), ("BadLine", "cells"))
        for value in odd_values():
            if not isinstance(value, Stamp):
                self.assertEqual(raised(line.stamped, value), ("BadValue", "stamp"))

    def test_equality(self):
        lines = [
            Line(PAIR, TWO, Station(3, ((0, 2),))), Line(PAIR, TWO, Station(4, ((0, 2),))),
            Line(PAIR, Stamp.digits(3, 2), Station(3, ((0, 2),))), Line(PAIR, TWO, Station(3, ((0, 2),)), Station(4, ((0, 2),))),
            Line(PAIR, TWO, Station(4, ((0, 2),)), Station(3, ((0, 2),))), Line(Sheet((Panel(2, 3),), (0,), PAIR.cells), TWO, Station(3, ((0, 2),))),
        ]
        for one, other in itertools.product(range(len(lines)), repeat=2):
            self.assertIs(lines[one] == lines[other], one == other)
        self.assertEqual(lines[0], Line(Sheet.read(str(PAIR)), Stamp.read(str(TWO)), Station(3, [(0, 2)])))
        for value in odd_values():
            self.assertFalse(lines[0] == value)


if __name__ == "__main__":
    unittest.main()
