"""Lines met in the middle, and with one unread letter: against all pairs of runs; refused values in their order."""

import math
import unittest

from jumblepost.jumbles import Jumble
from jumblepost.lines import Line
from jumblepost.look_forced import look_twins
from jumblepost.look_met import look_met, look_once
from jumblepost.met import MetForced, MetTwins, met_line
from jumblepost.once import OnceTwins, one_unread
from jumblepost.spans import span, span_table
from jumblepost.twins import Twins
from tests import meeting, tables, wide_lines
from tests.helpers import odd_values, raised
from tests.test_residues import KNOWN, LAGGING, LINES
from tests.test_steady import front, lies_near
from tests.test_twins import SEEN

FAR = 10 ** 60 - 1
FIRST = 10 ** 59 - 1


def spreads(most):
    """All pairs of early and late with at most this sum."""
    return [(early, late) for early in range(1, most) for late in range(1, most + 1 - early)]


def comes_round(line, early, late):
    return math.lcm(early + late, line.stamp.cycle) <= 400


def places_of(early, late):
    return (0, 1, 2, late - 1, late, late + 1, late + early, 2 * late + early + 1, 50, 10 ** 59 - 1, 10 ** 60 - 3, FAR)


class TestMetLine(unittest.TestCase):

    def check(self, line, early, late, place, least):
        """One line, met at one place: the name of what is told."""
        s = early + late
        told = met_line(line, early, late, place)
        self.assertEqual((told.early, told.late, told.place), (early, late, place))
        self.assertTrue(told)
        still = [m for m in front(early, late, place) if KNOWN.closed(line, s, m) is None]
        if least > s or place == 0 or len(still) < 2:
            self.assertIs(type(told), MetForced)
            self.assertEqual(told.table, span_table(line))
            closed = tuple(KNOWN.closed(line, s, m) for m in front(early, late, place))
            self.assertEqual(told.closed, () if least > s or place == 0 else closed)
        else:
            self.assertIs(type(told), MetTwins)
            self.check_twins(told, line)
        self.assertIs(look_met(told, line), True)
        self.assertTrue(meeting.is_right_met(told, line))
        return type(told).__name__

    def check_twins(self, told, line):
        """Twins have unlike residues ahead, and look alike at each place for more than a round."""
        many = 2 * math.lcm(told.early + told.late, line.stamp.cycle)
        self.assertNotEqual(told.one.ahead, told.other.ahead)
        rows = [run.stretch(told.place, many) for run in (told.one, told.other)]
        unlike = [(n, m) for n, m in zip(*rows) if n != m]
        self.assertTrue(all(KNOWN.alike(line, n, m) for n, m in unlike))
        self.assertEqual([(paper.one.number, paper.other.number) for paper in told.alikes], unlike[:len(unlike) // 2])
        self.assertTrue(unlike)
        for row in rows:
            self.assertTrue(lies_near(row, told.place, told.early, told.late))

    def test_spans_at_and_above_the_spread(self):
        names = {}
        for line in LINES:
            least = tables.alike_residues(line)[0]
            for early, late in spreads(min(8, least)):
                if comes_round(line, early, late):
                    for place in places_of(early, late):
                        if place >= 0:
                            key = (least == early + late, self.check(line, early, late, place, least))
                            names[key] = names.get(key, 0) + 1
        self.assertEqual(sorted(names), [(False, "MetForced"), (True, "MetForced"), (True, "MetTwins")])
        self.assertGreater(min(names.values()), 200)

    def test_spans_below_the_spread(self):
        found = 0
        for line in LINES[:50]:
            least = tables.alike_residues(line)[0]
            for early, late in spreads(6):
                if early + late > least and comes_round(line, early, late):
                    for place in (0, 1, None, FAR):
                        self.check_not_forced(line, early, late, met_line, (place,))
                    self.check_not_forced(line, early, late, one_unread, ())
                    found += 1
        self.assertGreater(found, 100)

    def check_not_forced(self, line, early, late, call, more):
        name, paper = raised(call, line, early, late, *more)
        self.assertEqual((name, type(paper), paper.jumble), ("NotForced", Twins, Jumble(early, late)))
        self.assertIs(look_twins(paper, line), True)

    def test_against_all_pairs_of_runs(self):
        """What is told is what all pairs of runs tell that look alike."""
        counts = {True: 0, False: 0}
        for line in LINES:
            least = tables.alike_residues(line)[0]
            for early, late in spreads(4):
                s = early + late
                if least < s or math.lcm(s, line.stamp.cycle) > 40:
                    continue
                for place in (0, 1, late - 1, late, late + 1, late + 3):
                    fine = meeting.is_forced_at(line, early, late, place)
                    self.assertIs(type(met_line(line, early, late, place)), MetForced if fine else MetTwins)
                    counts[fine] += least == s
        self.assertGreater(min(counts.values()), 40)

    def test_no_place(self):
        for line in LAGGING:
            s = span(line)
            for late in range(1, s):
                if comes_round(line, s - late, late):
                    self.assertEqual(met_line(line, s - late, late), met_line(line, s - late, late, late))
                    self.assertEqual(met_line(line, s - late, late, None).place, late)

    def test_greatest_spreads(self):
        line = wide_lines.seen_line(4, 3)
        for early, late in ((6, 6), (11, 1), (1, 11), (5, 7)):
            self.assertIs(look_met(met_line(line, early, late), line), True)
            self.assertIs(type(met_line(line, early, late)), MetTwins)
            for place in (0, 1, 2, 11, 12, FAR):
                told = met_line(line, early, late, place)
                self.assertIs(look_met(told, line), True)
                self.assertIs(type(told), MetForced if place == 0 else MetTwins)
            self.assertIs(look_once(one_unread(line, early, late), line), True)


class TestOneUnread(unittest.TestCase):

    def test_what_is_told(self):
        counts = {}
        for line in LINES:
            least = tables.alike_residues(line)[0]
            for early, late in spreads(min(8, least)):
                if not comes_round(line, early, late):
                    continue
                told = one_unread(line, early, late)
                met = met_line(line, early, late)
                counts[type(told).__name__] = counts.get(type(told).__name__, 0) + 1
                if type(met) is MetForced:
                    self.assertEqual(told, met)
                else:
                    self.check(told, line, early, late)
        self.assertGreater(counts["MetForced"], 100)
        self.assertGreater(counts["OnceTwins"], 50)

    def check(self, told, line, early, late):
        self.assertIs(type(told), OnceTwins)
        self.assertEqual((told.early, told.late), (early, late))
        self.assertTrue(0 <= told.unread <= FIRST and type(told.unread) is int)
        many = 2 * math.lcm(early + late, line.stamp.cycle)
        rows = [run.stretch(0, told.unread + 1 + many) for run in (told.one, told.other)]
        self.assertEqual(rows[0][:told.unread], rows[1][:told.unread])
        self.assertNotEqual(rows[0][told.unread], rows[1][told.unread])
        unlike = [(n, m) for n, m in zip(*rows) if n != m][1:]
        self.assertTrue(unlike and all(KNOWN.alike(line, n, m) for n, m in unlike))
        self.assertEqual([(paper.one.number, paper.other.number) for paper in told.alikes], unlike[:len(unlike) // 2])
        for row in rows:
            self.assertTrue(lies_near(row, 0, early, late))
            self.assertEqual(len(set(row)), len(row))
        self.assertIs(look_once(told, line), True)
        self.assertTrue(meeting.is_right_once(told, line))

    def test_against_all_pairs_of_runs(self):
        counts = {True: 0, False: 0}
        for line in LINES:
            least = tables.alike_residues(line)[0]
            for early, late in spreads(4):
                s = early + late
                if least >= s and math.lcm(s, line.stamp.cycle) <= 60:
                    fine = meeting.is_forced_once(line, early, late)
                    self.assertIs(type(one_unread(line, early, late)), MetForced if fine else OnceTwins)
                    counts[fine] += least == s
        self.assertGreater(min(counts.values()), 8)


class TestRefused(unittest.TestCase):

    def test_the_order(self):
        large = wide_lines.seen_line(10, 10, 10)
        for value in odd_values():
            for call in (met_line, one_unread):
                last = () if call is one_unread else (value,)
                if not isinstance(value, Line):
                    self.assertEqual(raised(call, value, value, value, *last), ("BadValue", "line"))
                if type(value) is not int or not 1 <= value <= 20:
                    self.assertEqual(raised(call, large, value, value, *last), ("BadValue", "early"))
                    self.assertEqual(raised(call, large, 20, value, *last), ("BadValue", "late"))
            if value is not None and (type(value) is not int or not 0 <= value <= FAR):
                self.assertEqual(raised(met_line, large, 20, 20, value), ("BadValue", "place"))
        for call in (met_line, one_unread):
            self.assertEqual(raised(call, large, 0, 0), ("BadValue", "early"))
            self.assertEqual(raised(call, large, 21, 0), ("BadValue", "early"))
            self.assertEqual(raised(call, large, 1, 0), ("BadValue", "late"))
            self.assertEqual(raised(call, large, 1, 21), ("BadValue", "late"))
            self.assertEqual(raised(call, large, 6, 7), ("TooMany", "spread"))
            self.assertEqual(raised(call, large, 20, 20), ("TooMany", "spread"))
            self.assertEqual(raised(call, large, 1, 1), ("TooMany", "numbers"))
        self.assertEqual(raised(met_line, large, 1, 1, FAR + 1), ("BadValue", "place"))
        self.assertEqual(raised(met_line, large, 6, 7, FAR), ("TooMany", "spread"))

    def test_rounds_and_tables(self):
        """A table that is too great is told behind a round that is too long."""
        line, many = wide_lines.above_4000()[3]
        self.assertEqual((line.stamp.cycle, many), (108, 4004))
        for call in (met_line, one_unread):
            self.assertEqual(raised(call, line, 1, 1), ("TooMany", "states"))
            self.assertEqual(raised(call, line, 6, 6), ("TooMany", "states"))
            self.assertEqual(raised(call, line, 3, 2), ("TooMany", "numbers"))
            self.assertEqual(raised(call, line, 6, 7), ("TooMany", "spread"))
        self.assertEqual(raised(met_line, line, 1, 1, 0), ("TooMany", "states"))
        for sizes in ((10, 4), (10, 10), (10, 10, 4), (8, 7, 7), (5, 9, 9)):
            line = wide_lines.seen_line(*sizes)
            for early, late in spreads(12):
                if comes_round(line, early, late):
                    self.assertIs(look_met(met_line(line, early, late), line), True)
                else:
                    self.assertEqual(raised(met_line, line, early, late), ("TooMany", "numbers"))
                    self.assertEqual(raised(one_unread, line, early, late), ("TooMany", "numbers"))

    def test_names(self):
        line = LAGGING[7]
        self.assertEqual(met_line(place=6, late=2, early=2, line=line), met_line(line, 2, 2, 6))
        self.assertEqual(one_unread(late=2, early=2, line=line), one_unread(line, 2, 2))


class TestPapers(unittest.TestCase):

    def check(self, made, names):
        for value in odd_values():
            for at in range(len(names)):
                parts = [0] * len(names)
                parts[at] = value
                paper = made(*parts)
                self.assertEqual([getattr(paper, name) for name in names], parts)
                self.assertEqual(paper, made(**dict(zip(names, parts))))
                parts[at] = (value, 1)
                self.assertNotEqual(paper, made(*parts))
                self.assertNotEqual(paper, tuple(parts))
                self.assertIs(bool(paper), True)

    def test_any_values(self):
        self.check(MetForced, ("early", "late", "place", "table", "closed"))
        self.check(MetTwins, ("early", "late", "place", "one", "other", "alikes"))
        self.check(OnceTwins, ("early", "late", "unread", "one", "other", "alikes"))
        self.assertNotEqual(MetTwins(1, 1, 1, 1, 1, 1), OnceTwins(1, 1, 1, 1, 1, 1))


if __name__ == "__main__":
    unittest.main()
