"""Changed lines: each change with right values, each refusal, and the facts of [27]."""

import itertools
import random
import unittest

from jumblepost.changes import at_stations, with_pane
from jumblepost.errors import PostError
from jumblepost.lines import Line
from jumblepost.rows import Row
from jumblepost.spans import span
from jumblepost.stamps import Stamp
from jumblepost.stations import Station
from jumblepost.wheels import Wheel
from jumblepost.sheets import Panel, Sheet
from tests import small_lines, wide_lines
from tests.helpers import odd_values, raised
from tests.test_residues import LAGGING
from tests.test_spans import readable_lines

LINES = small_lines.small_lines(40, 541) + readable_lines(20, 542)


def made(line, station_at, panes):
    """The line with these panes at a station, or the error that making it raises."""
    try:
        stations = list(line.stations)
        old = stations[station_at]
        stations[station_at] = Station(old.width, panes, old.rows, old.either)
        return Line(line.sheet, line.stamp, *stations), None
    except PostError as error:
        return None, (type(error).__name__, *vars(error).values())


class TestPanes(unittest.TestCase):

    def test_all_panes(self):
        """Each pane that can be told, and some that cannot."""
        fine = wrong = 0
        for line in LINES[:30]:
            for at, station in enumerate(line.stations):
                for index in range(len(station.panes)):
                    for left, right in itertools.product(range(-1, station.width + 2), repeat=2):
                        panes = list(station.panes)
                        panes[index] = (left, right)
                        told, error = made(line, at, panes)
                        if error is None:
                            changed = with_pane(line, at, index, (left, right))
                            self.assertEqual(changed, told)
                            self.assertEqual(changed.stations[at].panes, tuple(panes))
                            self.assertEqual(changed.views, told.views)
                            fine += 1
                        else:
                            self.assertEqual(raised(with_pane, line, at, index, (left, right)), error)
                            wrong += 1
        self.assertGreater(min(fine, wrong), 200)

    def test_nothing_else_changes(self):
        for line in LINES:
            before = (str(line.sheet), str(line.stamp), [str(station) for station in line.stations])
            for at, station in enumerate(line.stations):
                for index, pane in enumerate(station.panes):
                    self.assertEqual(with_pane(line, at, index, pane), line)
            self.assertEqual((str(line.sheet), str(line.stamp), [str(station) for station in line.stations]), before)

    def test_any_pane(self):
        line = wide_lines.sliding_line((3, 4), (0, 1), (1, 0), (3, (0, 1)), (3, (1, 3)))
        for value in odd_values() + [[0, 1], (0, 1, 2), (True, 2), (0, False), ("0", "1"), ((0, 1),), (0,)]:
            self.assertEqual(raised(with_pane, line, 1, 0, value), ("BadValue", "panes"))
        self.assertEqual(raised(with_pane, line, 0, 0, (1, 1)), ("BadStation", "pane", 0))
        self.assertEqual(raised(with_pane, line, 0, 0, (0, 4)), ("BadStation", "pane", 0))
        two = Line(line.sheet, line.stamp, Station(7, ((0, 2), (4, 5))))
        self.assertEqual(raised(with_pane, two, 0, 0, (0, 4)), ("BadStation", "pane", 1))
        self.assertEqual(raised(with_pane, two, 0, 1, (2, 5)), ("BadStation", "pane", 1))
        self.assertEqual(with_pane(two, 0, 1, (3, 7)).stations, (Station(7, ((0, 2), (3, 7))),))

    def test_lines_that_cannot_be_made(self):
        line = wide_lines.sliding_line((2, 2, 2, 2), (0, 0, 0, 0), (2, 0, 3, 1), (12, (0, 1)), (12, (4, 6)), (12, (2, 3)))
        told = {raised(with_pane, line, at, 0, (0, right)) for at in range(3) for right in range(1, 13)}
        self.assertIn(("TooMany", "views"), told)
        self.assertIn(None, told)

    def test_the_order(self):
        line = wide_lines.sliding_line((3, 4), (0, 1), (1, 0), (3, (0, 1)), (3, (1, 3)))
        for value in odd_values():
            if not isinstance(value, Line):
                self.assertEqual(raised(with_pane, value, value, value, value), ("BadValue", "line"))
            self.assertEqual(raised(with_pane, line, value, value, value), ("BadValue", "station_at"))
            self.assertEqual(raised(with_pane, line, 1, value, value), ("BadValue", "pane_at"))
        for at in (-1, 2, 10 ** 60, True, "0"):
            self.assertEqual(raised(with_pane, line, at, 9, None), ("BadValue", "station_at"))
        for at in (-1, 1, True, False, None):
            self.assertEqual(raised(with_pane, line, 0, at, None), ("BadValue", "pane_at"))
        self.assertEqual(with_pane(pane=(0, 3), pane_at=0, station_at=1, line=line).stations[1].panes, ((0, 3),))


class TestStations(unittest.TestCase):

    def test_all_choices(self):
        for line in LINES:
            many = len(line.stations)
            for length in range(1, many + 1):
                for choice in itertools.combinations(range(many), length):
                    told = at_stations(line, *choice)
                    self.assertEqual(told, Line(line.sheet, line.stamp, *[line.stations[at] for at in choice]))
                    self.assertEqual(told.views, Line(line.sheet, line.stamp, *[line.stations[at] for at in choice]).views)
            self.assertEqual(at_stations(line, *range(many)), line)

    def test_refused(self):
        line = wide_lines.sliding_line((3, 4), (0, 1), (1, 0), (3, (0, 1)), (3, (1, 3)), (3, (2, 3)))
        for value in odd_values():
            if not isinstance(value, Line):
                self.assertEqual(raised(at_stations, value, value), ("BadValue", "line"))
                self.assertEqual(raised(at_stations, value), ("BadValue", "line"))
            self.assertEqual(raised(at_stations, line, value), ("BadValue", "stations_at"))
            self.assertEqual(raised(at_stations, line, 0, value), ("BadValue", "stations_at"))
        for choice in ((), (1, 0), (0, 0), (0, 3), (-1,), (-1, 0), (0, 1, 2, 3), (3,), (True,), (0, True), (0, 2, 1), ((0, 1),)):
            self.assertEqual(raised(at_stations, line, *choice), ("BadValue", "stations_at"), choice)
        self.assertEqual(at_stations(line, 0, 2).stations, (line.stations[0], line.stations[2]))


class TestFacts(unittest.TestCase):
    """The span does not fall where [27] says so; with a broader pane it can fall and rise."""

    def check(self, line, make):
        try:
            other = make()
        except PostError:
            return 0
        self.assertGreaterEqual(span(other), span(line))
        return 1

    def test_what_the_span_does_not_fall_by(self):
        rand = random.Random(543)
        many = 0
        for line in LINES + LAGGING:
            more = rand.choice(LINES).stations[0]
            many += self.check(line, lambda: line.beside(more))
            for at, station in enumerate(line.stations):
                panes = station.panes + ((station.panes[-1][1] + 1, station.width),)
                many += self.check(line, lambda: made_or_raise(line, at, Station(station.width, panes, station.rows, station.either)))
                row = Row(rand.randrange(1, len(line.sheet.panels) + 2), 0, rand.randrange(station.width))
                many += self.check(line, lambda: made_or_raise(line, at, station.pushed(row)))
                many += self.check(line, lambda: made_or_raise(line, at, Station(station.width, station.panes, station.rows)))
            panels = [Panel(panel.least, rand.randint(panel.least, panel.most)) for panel in line.sheet.panels]
            many += self.check(line, lambda: Line(Sheet(panels, line.sheet.ahead, line.sheet.cells), line.stamp, *line.stations))
            wheels = [Wheel(wheel.faces, rand.randint(0, wheel.lag), rand.randint(0, wheel.lead)) for wheel in line.stamp]
            many += self.check(line, lambda: line.stamped(Stamp(*wheels)))
        self.assertGreater(many, 250)

    def test_broader_panes(self):
        line = wide_lines.sliding_line((3, 3, 3), (0, 0, 0), (0, 2, 1), (5, (1, 2)))
        spans = []
        for right in range(2, 6):
            spans.append(span(with_pane(line, 0, 0, (1, right))))
        self.assertTrue(any(b < a for a, b in zip(spans, spans[1:])) or any(b > a for a, b in zip(spans, spans[1:])))


def made_or_raise(line, at, station):
    stations = list(line.stations)
    stations[at] = station
    return Line(line.sheet, line.stamp, *stations)


if __name__ == "__main__":
    unittest.main()
