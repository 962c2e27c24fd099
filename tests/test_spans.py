"""Spans, tables, nearest pairs and alike distances: against all numbers of a cycle; too many states."""

import random
import time
import unittest

from jumblepost.distances import alike_at, alike_distances
from jumblepost.forced import decide, is_forced
from jumblepost.jumbles import Jumble
from jumblepost.lines import Line
from jumblepost.look_sightings import look_alike
from jumblepost.rows import Row
from jumblepost.sheets import Cell, Panel, Sheet
from jumblepost.sightings import Alike
from jumblepost.spans import SpanTable, nearest_pair, span, span_table
from jumblepost.stamps import Stamp
from jumblepost.stations import Station
from jumblepost.twins import twins
from jumblepost.unread import reader, readings
from jumblepost.wheels import Wheel
from tests import small_lines, stamping, tables, wide_lines
from tests.helpers import odd_values, raised
from tests.small import random_sheet

MOST = 10 ** 59 - 1
def readable_lines(many, seed):
    """Lines on which much is read, so that spans are greater."""
    rand = random.Random(seed)
    found = []
    while len(found) < many:
        stamp = stamping.random_stamp(rand, 3, 4, 6)
        sheet = random_sheet(rand, 6, stamp.signs)
        width = sum(panel.most for panel in sheet.panels)
        row = [Row(1, 0, 0)] if rand.random() < 0.5 else []
        try:
            found.append(Line(sheet, stamp, Station(max(width, 3), ((0, max(width, 3)),), row, rand.random() < 0.3)))
        except ValueError:
            continue
    return found


LINES = small_lines.small_lines(120, 111) + readable_lines(80, 112)
RESIDUES = [tables.alike_residues(line) for line in LINES]


class TestAgainstAllNumbers(unittest.TestCase):

    def test_there_is_some_of_all(self):
        self.assertGreater(sum(len(line.stations) > 1 for line in LINES), 40)
        self.assertGreater(sum(any(station.either for station in line.stations) for line in LINES), 40)
        self.assertGreater(sum(any(wheel.lag for wheel in line.stamp.wheels) for line in LINES), 30)
        self.assertGreater(sum(any(wheel.lead for wheel in line.stamp.wheels) for line in LINES), 30)
        self.assertGreater(len({told[0] for told in RESIDUES}), 6)

    def test_span(self):
        for line, told in zip(LINES, RESIDUES):
            self.assertEqual(span(line), told[0])
            self.assertEqual(span_table(line).span, told[0])

    def test_nearest_pair(self):
        for line, told in zip(LINES, RESIDUES):
            paper = nearest_pair(line)
            self.assertIs(type(paper), Alike)
            self.assertEqual(paper.distance, told[0])
            self.assertTrue(0 <= paper.one.number < line.stamp.cycle)
            self.assertIs(look_alike(paper, line), True)
            self.assertEqual(nearest_pair(line), paper)

    def test_alike_distances(self):
        for line, told in zip(LINES, RESIDUES):
            cycle = line.stamp.cycle
            every = tuple(d for d in range(1, 61) if (d - 1) % cycle + 1 in told)
            for most in (60, 0, 1, cycle % 61, 17):
                self.assertEqual(alike_distances(line, most), tuple(d for d in every if d <= most))

    def test_alike_at(self):
        rand = random.Random(114)
        for line, told in zip(LINES, RESIDUES):
            cycle = line.stamp.cycle
            distances = [*range(1, min(cycle, 5) + 1), cycle, cycle + 1, MOST, MOST - MOST % cycle, 10 ** 58 + rand.randrange(cycle)]
            distances += [rand.randrange(1, 4 * cycle) for _ in range(3)]
            for distance in distances:
                paper = alike_at(line, distance)
                if (distance - 1) % cycle + 1 not in told:
                    self.assertIsNone(paper)
                    continue
                self.assertEqual(paper.distance, distance)
                self.assertTrue(0 <= paper.one.number < cycle)
                self.assertIs(look_alike(paper, line), True)
                self.assertEqual(alike_at(line, distance), paper)

    def test_a_carry_confuses_what_no_wheel_does(self):
        """The example of [16]: 58 and 61 look alike if 1 and 8, and 5 and 6, agree."""
        ones = Wheel(("0x", "1x", "2x", "3x", "4x", "5x", "6x", "7x", "1y", "9x"))
        tens = Wheel(("0x", "1x", "2x", "3x", "4x", "5x", "5y", "7x", "8x", "9x"))
        sheet = Sheet((Panel.firm(4),), (0,), [Cell(0, 0, at) for at in range(4)])
        line = Line(sheet, Stamp(ones, tens), Station(4, ((0, 1), (2, 3))))
        self.assertEqual(span(line), 3)
        self.assertEqual(nearest_pair(line).one.number % 10, 8)
        self.assertEqual(nearest_pair(line).one.number // 10, 5)

    def test_nothing_is_seen(self):
        for sizes in ((2,), (3, 4), (10, 10, 10)):
            line = wide_lines.blind_line(*sizes)
            self.assertEqual(span(line), 1)
            self.assertEqual(alike_distances(line, 60), tuple(range(1, 61)))
            self.assertEqual(nearest_pair(line).one.look, ("",))

    def test_all_is_seen(self):
        for sizes in ((2,), (3, 4), (10, 10, 10), (7, 7, 7, 7, 7, 7), (10, 10, 10, 10, 10, 10)):
            line = wide_lines.seen_line(*sizes)
            cycle = line.stamp.cycle
            self.assertEqual(span(line), cycle)
            self.assertEqual(nearest_pair(line).distance, cycle)
            self.assertEqual(alike_distances(line, 60), tuple(range(cycle, 61, cycle)))
            self.assertIsNone(alike_at(line, 10 ** 58 // cycle * cycle + 1))
            self.assertEqual(alike_at(line, 3 * cycle).distance, 3 * cycle)


class TestTables(unittest.TestCase):

    def test_the_least_values(self):
        levels = 0
        for line in LINES[::2]:
            table = span_table(line)
            told = tables.tables(line)
            self.assertEqual(repr(table.tables), repr(told))
            self.assertIs(type(table), SpanTable)
            values = [value for _, _, rows in told for state, value in rows[-1] if state[3] == 1]
            self.assertEqual(table.span, min(values + [line.stamp.cycle]))
            levels += any(row == () for _, _, rows in told for row in rows)
        self.assertGreater(levels, 3)

    def test_great_stamps(self):
        lags = (0, 3, 10, 1)
        for order in ((0, 1, 2, 3), (3, 2, 1, 0), (1, 3, 0, 2)):
            line = wide_lines.sliding_line((10, 10, 6, 5), lags, order, (5, (1, 3)))
            self.assertEqual(repr(span_table(line).tables), repr(tables.tables(line)))

    def test_papers(self):
        for value in odd_values():
            paper = SpanTable(value, 1)
            self.assertEqual((paper.span, paper.tables), (value, 1))
            self.assertEqual(paper, SpanTable(tables=1, span=value))
            self.assertNotEqual(paper, SpanTable(value, 2))
            self.assertNotEqual(paper, SpanTable((value, 0), 1))
            self.assertNotEqual(paper, value)
            self.assertTrue(paper)


def changed_stations(rand, line, station):
    """Stations at which no more can be seen alike: a pane more, a row more, plain letters alone."""
    for left, right in ((0, 1), (station.width - 2, station.width), (rand.randrange(station.width), station.width)):
        try:
            yield Station(station.width, sorted(station.panes + ((left, right),)), station.rows, station.either)
        except ValueError:
            continue
    one, other = rand.sample(range(len(line.sheet.panels) + 2), 2)
    yield station.pushed(Row(one, other, rand.randint(-1, station.width)))
    if station.either:
        yield Station(station.width, station.panes, station.rows)


def changed_lines(rand, line):
    """Lines that can be made of this one, on which no more numbers are alike."""
    sheet, stamp, stations = line.sheet, line.stamp, line.stations
    parts = [(sheet, stamp, stations + (rand.choice(LINES).stations[0],))]
    for at, station in enumerate(stations):
        parts += [(sheet, stamp, stations[:at] + (told,) + stations[at + 1:]) for told in changed_stations(rand, line, station)]
    for at, panel in enumerate(sheet.panels):
        if panel.slack:
            for firm in (panel.least, panel.most):
                parts.append((Sheet(sheet.panels[:at] + (Panel.firm(firm),) + sheet.panels[at + 1:], sheet.ahead, sheet.cells), stamp, stations))
    for at, wheel in enumerate(stamp.wheels):
        for lag, lead in ((wheel.lag - 1, wheel.lead), (wheel.lag, wheel.lead - 1), (0, 0)):
            if min(lag, lead) >= 0:
                wheels = stamp.wheels[:at] + (Wheel(wheel.faces, lag, lead),) + stamp.wheels[at + 1:]
                parts.append((sheet, Stamp(*wheels), stations))
    for told in parts:
        try:
            yield Line(told[0], told[1], *told[2])
        except ValueError:
            continue


class TestChangedLines(unittest.TestCase):

    def test_the_span_does_not_fall(self):
        rand = random.Random(115)
        rose = same = 0
        for line in LINES[::2]:
            least = span(line)
            for other in changed_lines(rand, line):
                self.assertGreaterEqual(span(other), least)
                rose += span(other) > least
                same += span(other) == least
        self.assertGreater(rose, 20)
        self.assertGreater(same, 100)

    def test_broader_panes_and_more_wheels(self):
        """Here the span can fall or rise."""
        sheet = Sheet((Panel.firm(8),), (0,), (Cell(0, 0, 0, 2), Cell(0, 0, 6, 2), Cell(0, 0, 3, 2)))
        spans = [span(Line(sheet, Stamp.digits(3, 3, 3), Station(10, ((2, 2 + width),)))) for width in range(1, 9)]
        self.assertEqual(spans, [1, 1, 1, 1, 3, 1, 1, 9])
        found = set()
        rand = random.Random(116)
        for line in LINES:
            faces = rand.sample("ab01xyz", 2)
            cells = line.sheet.cells
            try:
                # The cell of the wheel above bears the first sign of the print.
                told = Line(Sheet(line.sheet.panels, line.sheet.ahead, (Cell(0, 0, 0), *cells)), Stamp(*line.stamp.wheels, Wheel(faces)), *line.stations)
            except ValueError:
                continue
            found.add((span(told) > span(line)) - (span(told) < span(line)))
        self.assertEqual(found, {-1, 0, 1})


class TestTooMany(unittest.TestCase):

    def calls(self, line):
        """All calls that make the table of a line, whatever else they are asked."""
        return [
            (span_table, line), (span, line), (nearest_pair, line), (alike_at, line, 1), (alike_at, line, line.stamp.cycle),
            (alike_at, line, MOST), (alike_distances, line, 0), (alike_distances, line, 60), (alike_distances, line, 1),
            (twins, line, Jumble()), (twins, line, Jumble(2, 2)), (decide, line, Jumble(1, 0)), (is_forced, line, Jumble(9, 9, 9)),
            (reader, line, Jumble()), (next, readings(line, Jumble(), ())),
        ]

    def test_just_as_many(self):
        for line in wide_lines.just_4000():
            told = tables.tables(line)
            self.assertEqual(tables.many_states(told), 4000)
            self.assertEqual(repr(span_table(line).tables), repr(told))
            self.assertEqual(span(line), 1)
            self.assertEqual(nearest_pair(line).distance, 1)
            self.assertEqual(alike_distances(line, 60)[0], 1)
            self.assertIsNotNone(alike_at(line, line.stamp.cycle))
            self.assertFalse(twins(line, Jumble(2, 2)))

    def test_a_few_more(self):
        for line, many in wide_lines.above_4000():
            self.assertEqual(tables.many_states(tables.tables(line)), many)
            for call in self.calls(line):
                self.assertEqual(raised(*call), ("TooMany", "states"), call)
            # No span is enough for these, so no table is made.
            for jumble in (Jumble(1, 2, apart=2), Jumble(1, 1, 1, apart=2), Jumble(0, 0, 0, True, 1)):
                self.assertFalse(twins(line, jumble))
                self.assertFalse(decide(line, jumble))
                self.assertIs(is_forced(line, jumble), False)
                self.assertEqual(raised(reader, line, jumble)[0], "NotForced")

    def test_many_more(self):
        """Far more states than are let are not gone through."""
        order = tuple(range(12))[::-1]
        begin = time.process_time()
        for faces in (("01", "12", "23", "34", "45", "56", "67", "78", "89", "9a"), ("ab", "ba", "bb", "cc", "cd")):
            stamp = Stamp(*[Wheel(faces) for _ in range(6)])
            sheet = Sheet((Panel.firm(12),), (0,), [Cell(0, 0, at) for at in order])
            line = Line(sheet, stamp, Station(20, ((3, 12),)), Station(15, ((5, 12),)))
            for call in self.calls(line):
                self.assertEqual(raised(*call), ("TooMany", "states"))
        self.assertLess(time.process_time() - begin, 30)


class TestRefused(unittest.TestCase):

    def test_no_line(self):
        for value in odd_values():
            if not isinstance(value, Line):
                for call in (span_table, span, nearest_pair):
                    self.assertEqual(raised(call, value), ("BadValue", "line"))
                self.assertEqual(raised(alike_at, value, value), ("BadValue", "line"))
                self.assertEqual(raised(alike_distances, value, value), ("BadValue", "line"))

    def test_distances(self):
        line = wide_lines.seen_line(3)
        great = wide_lines.above_4000()[0][0]
        for value in odd_values() + [0, 10 ** 59, 10 ** 60 - 1, 61]:
            if value != 61:
                self.assertEqual(raised(alike_at, line, value), ("BadValue", "distance"))
                self.assertEqual(raised(alike_at, great, value), ("BadValue", "distance"))
            if type(value) is not int or value != 0:
                self.assertEqual(raised(alike_distances, line, value), ("BadValue", "most"))
                self.assertEqual(raised(alike_distances, great, value), ("BadValue", "most"))

    def test_names(self):
        line = wide_lines.seen_line(3)
        self.assertEqual(alike_at(distance=3, line=line).distance, 3)
        self.assertEqual(alike_distances(most=7, line=line), (3, 6))
        self.assertEqual(span(line=line), span_table(line=line).span)
        self.assertEqual(nearest_pair(line=line).distance, 3)


if __name__ == "__main__":
    unittest.main()
