"""Least designs: the widths of panes and the stations that are enough, against all lines that can be made."""

import itertools
import unittest

from jumblepost.changes import at_stations, with_pane
from jumblepost.errors import TooMany
from jumblepost.forced import Forced, decide
from jumblepost.jumbles import Jumble
from jumblepost.least import Least, fewest_stations, least_pane, pane_spans
from jumblepost.lines import Line
from jumblepost.look_designs import look_pane, look_stations
from jumblepost.rows import Row
from jumblepost.sheets import Cell, Panel, Sheet
from jumblepost.spans import span
from jumblepost.stamps import Stamp
from jumblepost.stations import Station
from jumblepost.twins import Twins
from tests import small_lines, wide_lines
from tests.helpers import odd_values, raised
from tests.test_changes import made
from tests.test_spans import readable_lines

BOXES = Sheet((Panel.firm(8),), (0,), (Cell(0, 0, 0, 2), Cell(0, 0, 6, 2), Cell(0, 0, 3, 2)))
BROAD = Line(BOXES, Stamp.digits(3, 3, 3), Station(10, ((2, 8),)))
LINES = [BROAD, BROAD.stamped(Stamp.digits(4, 2, 3))] + small_lines.small_lines(14, 561) + readable_lines(14, 562)
# The last pane has the spans 3, 9, 9, and then so many views that no line can be made.
CROWDED = Line(
    Sheet((Panel(4, 10),), (0,), (Cell(0, 1, 0), Cell(0, 0, 1), Cell(0, 0, 0))), Stamp.digits(3, 3, 2),
    Station(8, ((0, 1), (3, 4))), Station(8, ((0, 2), (5, 7))), Station(10, ((0, 1),), [Row(1, 0, 0)]))
# The first pane has the spans 2, 2, 2, and then a table of too many states.
HEAVY = wide_lines.sliding_line((2, 3, 3, 3, 4), (0, 0, 0, 0, 0), (0, 2, 3, 4, 1), (13, (1, 4)), (9, (0, 7)), (7, (3, 5)))
JUMBLES = [Jumble(), Jumble(1, 1), Jumble(1, 2), Jumble(2, 2), Jumble(5, 5), Jumble(0, 0, 2), Jumble(1, 1, 0, True), Jumble(1, 1, 0, False, 2), Jumble(1, 1, 0, False, 1), Jumble(20, 20)]


def all_panes(lines):
    return [(line, at, index) for line in lines for at, station in enumerate(line.stations) for index in range(len(station.panes))]


def all_widths(line, at, index):
    """The lines of a pane with the same left side and each width with which the station can be made."""
    station = line.stations[at]
    left = station.panes[index][0]
    found = []
    for width in range(1, station.width + 1):
        panes = station.panes[:index] + ((left, left + width),) + station.panes[index + 1:]
        told, error = made(line, at, panes)
        if error is None or error[0] == "TooMany":
            found.append((width, told))
    return found


def spans_told(line, at, index):
    """The pairs that pane_spans yields, and the error that it raises behind them."""
    found = []
    told = pane_spans(line, at, index)
    while True:
        try:
            found.append(next(told))
        except StopIteration:
            return found, None
        except TooMany as error:
            return found, ("TooMany", error.what)


class TestPanes(unittest.TestCase):

    def test_spans(self):
        broken = 0
        for line, at, index in all_panes(LINES + [CROWDED]):
            told = all_widths(line, at, index)
            self.assertEqual([width for width, _ in told], list(range(1, len(told) + 1)))
            fine = list(itertools.takewhile(lambda pair: pair[1] is not None, told))
            pairs, error = spans_told(line, at, index)
            self.assertEqual(pairs, [(width, span(other)) for width, other in fine])
            self.assertEqual(error, None if len(fine) == len(told) else ("TooMany", "views"))
            broken += error is not None
        self.assertGreater(broken, 1)

    def test_spans_fall_and_rise(self):
        self.assertEqual(list(pane_spans(BROAD, 0, 0)), [(1, 1), (2, 1), (3, 1), (4, 1), (5, 3), (6, 1), (7, 1), (8, 9)])
        changes = set()
        for line, at, index in all_panes(LINES):
            told = [least for _, least in spans_told(line, at, index)[0]]
            changes |= {(b > a) - (b < a) for a, b in zip(told, told[1:])}
        self.assertEqual(changes, {-1, 0, 1})

    def test_bars_between_panes(self):
        line = BROAD.beside(Station(12, ((1, 2), (4, 5), (8, 12))))
        self.assertEqual([width for width, _ in pane_spans(line, 1, 0)], [1, 2])
        self.assertEqual([width for width, _ in pane_spans(line, 1, 1)], [1, 2, 3])
        self.assertEqual([width for width, _ in pane_spans(line, 1, 2)], [1, 2, 3, 4])

    def test_least_panes(self):
        found = {"least": 0, "none": 0}
        for line, at, index in all_panes(LINES):
            for jumble in JUMBLES:
                lines = [other for _, other in all_widths(line, at, index)]
                papers = [decide(other, jumble) for other in itertools.takewhile(lambda other: other is not None, lines)]
                first = next((k for k, paper in enumerate(papers) if type(paper) is Forced), None)
                if first is None and len(papers) < len(lines):
                    self.assertEqual(raised(least_pane, line, at, index, jumble), ("TooMany", "views"))
                    continue
                told = least_pane(line, at, index, jumble)
                if first is None:
                    self.assertEqual(told, Least(None, None, tuple(papers)))
                    self.assertFalse(told)
                    found["none"] += 1
                else:
                    self.assertEqual(told, Least(first + 1, papers[first], tuple(papers[:first])))
                    self.assertTrue(told)
                    found["least"] += first > 0
                self.assertTrue(all(type(paper) is Twins for paper in told.lesser))
                self.assertIs(look_pane(told, line, at, index, jumble), True)
        self.assertGreater(min(found.values()), 20)

    def test_widths_of_which_no_line_can_be_made(self):
        told = pane_spans(CROWDED, 2, 0)
        self.assertEqual([next(told) for _ in range(3)], [(1, 3), (2, 9), (3, 9)])
        self.assertEqual(raised(next, told), ("TooMany", "views"))
        self.assertEqual(least_pane(CROWDED, 2, 0, Jumble(1, 2)).amount, 1)
        self.assertEqual(least_pane(CROWDED, 2, 0, Jumble(2, 2)).amount, 2)
        self.assertEqual(least_pane(CROWDED, 2, 0, Jumble(4, 5)).amount, 2)
        self.assertEqual(raised(least_pane, CROWDED, 2, 0, Jumble(5, 5)), ("TooMany", "views"))
        self.assertEqual(raised(least_pane, CROWDED, 2, 0, Jumble(5, 5, 0, True, 10)), ("TooMany", "views"))

    def test_widths_of_which_no_table_can_be_made(self):
        told = pane_spans(HEAVY, 0, 0)
        self.assertEqual([next(told) for _ in range(3)], [(1, 2), (2, 2), (3, 2)])
        self.assertEqual(raised(next, told), ("TooMany", "states"))
        self.assertEqual(least_pane(HEAVY, 0, 0, Jumble(1, 1)).amount, 1)
        self.assertEqual(raised(least_pane, HEAVY, 0, 0, Jumble(1, 2)), ("TooMany", "states"))
        # No span is enough for this one, so that tables are not asked for, up to lines that cannot be made.
        never = Jumble(1, 1, 0, True, 1)
        self.assertIn(("TooMany", "views"), [raised(with_pane, HEAVY, 0, 0, (1, right)) for right in range(2, 14)])
        self.assertEqual(raised(least_pane, HEAVY, 0, 0, never), ("TooMany", "views"))

    def test_refused(self):
        for value in odd_values():
            if not isinstance(value, Line):
                self.assertEqual(raised(next, pane_spans(value, value, value)), ("BadValue", "line"))
                self.assertEqual(raised(least_pane, value, value, value, value), ("BadValue", "line"))
            self.assertEqual(raised(next, pane_spans(BROAD, value, value)), ("BadValue", "station_at"))
            self.assertEqual(raised(next, pane_spans(BROAD, 0, value)), ("BadValue", "pane_at"))
            self.assertEqual(raised(least_pane, BROAD, value, value, value), ("BadValue", "station_at"))
            self.assertEqual(raised(least_pane, BROAD, 0, value, value), ("BadValue", "pane_at"))
            if type(value) is not Jumble:
                self.assertEqual(raised(least_pane, BROAD, 0, 0, value), ("BadValue", "jumble"))
                self.assertEqual(raised(fewest_stations, BROAD, value), ("BadValue", "jumble"))
            if not isinstance(value, Line):
                self.assertEqual(raised(fewest_stations, value, value), ("BadValue", "line"))
        self.assertEqual(raised(least_pane, BROAD, 1, 0, None), ("BadValue", "station_at"))
        self.assertEqual(raised(least_pane, BROAD, 0, -1, None), ("BadValue", "pane_at"))
        self.assertEqual(list(pane_spans(pane_at=0, station_at=0, line=BROAD)), list(pane_spans(BROAD, 0, 0)))
        self.assertEqual(least_pane(jumble=Jumble(1, 2), pane_at=0, station_at=0, line=BROAD).amount, 5)


class TestStations(unittest.TestCase):

    def test_fewest(self):
        counts = {}
        for line in LINES + several(10):
            many = len(line.stations)
            choices = [choice for length in range(1, many + 1) for choice in itertools.combinations(range(many), length)]
            for jumble in JUMBLES:
                told = fewest_stations(line, jumble)
                papers = [decide(at_stations(line, *choice), jumble) for choice in choices]
                first = next((k for k, paper in enumerate(papers) if type(paper) is Forced), None)
                if first is None:
                    self.assertEqual(told, Least(None, None, tuple(papers)))
                else:
                    self.assertEqual(told, Least(choices[first], papers[first], tuple(papers[:first])))
                self.assertIs(look_stations(told, line, jumble), True)
                key = told.amount and len(told.amount)
                counts[key] = counts.get(key, 0) + 1
        self.assertGreater(counts[None], 20)
        self.assertGreater(counts[1], 20)
        self.assertGreater(counts[2], 2)
        self.assertGreater(counts[3], 0)

    def test_the_example(self):
        stations = Station(8, ((0, 2),)), Station(8, ((3, 5),)), Station(8, ((6, 8),))
        line = Line(BOXES, Stamp.digits(3, 3, 3), *stations)
        told = fewest_stations(line, Jumble(2, 2))
        self.assertEqual((told.amount, len(told.lesser)), ((1, 2), 5))
        self.assertEqual(fewest_stations(line, Jumble(6, 6)).amount, (0, 1, 2))
        self.assertIsNone(fewest_stations(line, Jumble(20, 20)).amount)

    def test_tables_that_are_too_great(self):
        line = wide_lines.above_4000()[0][0]
        self.assertEqual(raised(fewest_stations, line, Jumble(1, 1)), ("TooMany", "states"))
        self.assertIsNone(fewest_stations(line, Jumble(1, 1, 0, True, 1)).amount)
        both = wide_lines.sliding_line((9, 10, 8, 5), (0, 2, 0, 0), (2, 0, 3, 1), (4, (0, 4)), (6, (1, 4)))
        self.assertEqual(fewest_stations(both, Jumble(2, 2)).amount, (0,))
        turned = wide_lines.sliding_line((9, 10, 8, 5), (0, 2, 0, 0), (2, 0, 3, 1), (6, (1, 4)), (4, (0, 4)))
        self.assertEqual(raised(fewest_stations, turned, Jumble(2, 2)), ("TooMany", "states"))


def several(many):
    """Lines of two or three stations of which none alone sees all."""
    found = []
    stamps = [Stamp.digits(3, 3, 3), Stamp.digits(2, 3, 4), Stamp.digits(4, 2, 2)]
    panes = [((0, 2),), ((3, 5),), ((6, 8),), ((0, 2), (6, 8)), ((3, 8),)]
    for stamp, picked in itertools.product(stamps, itertools.permutations(panes, 3)):
        found.append(Line(BOXES, stamp, *[Station(8, told) for told in picked]))
    return found[::len(found) // many]


class TestPapers(unittest.TestCase):

    def test_any_values(self):
        for value in odd_values():
            paper = Least(value, 1, 2)
            self.assertEqual((paper.amount, paper.forced, paper.lesser), (value, 1, 2))
            self.assertIs(bool(paper), value is not None)
            self.assertEqual(Least(lesser=value, forced=value, amount=value), Least(value, value, value))
            for other in (Least((value, 1), 1, 2), Least(value, 2, 2), Least(value, 1, 1), value, (value, 1, 2)):
                self.assertNotEqual(paper, other)


if __name__ == "__main__":
    unittest.main()
