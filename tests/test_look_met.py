"""look_met and look_once: papers as they are, and with one part changed at any place."""

import math
import random
import unittest

from jumblepost.errors import PostError
from jumblepost.look_met import look_met, look_once
from jumblepost.met import MetForced, MetTwins, met_line
from jumblepost.once import OnceTwins, one_unread
from jumblepost.sightings import Alike, alike
from jumblepost.spans import SpanTable, span, span_table
from jumblepost.steady import SteadyRun
from tests import meeting, tables, wide_lines
from tests.helpers import odd_values, raised
from tests.test_residues import KNOWN, LAGGING, LINES
from tests.test_steady import all_heads

FAR = 10 ** 60 - 1


def parts_of(paper):
    return list(vars(paper).values())


def with_one(made, parts, at, value):
    return made(*parts[:at], value, *parts[at + 1:])


def other_runs(run):
    """Steady runs that are nearly like one."""
    found = []
    for early, late, place in ((0, 0, 0), (0, 0, 1), (0, 0, -1), (1, 0, 0), (0, 1, 0), (1, -1, 0), (-1, 1, 0), (0, 0, run.early + run.late), (0, 0, 1 - run.place)):
        told = (run.early + early, run.late + late, run.place + place)
        if told[0] < 1 or told[1] < 1 or sum(told[:2]) > 6 or not 0 <= told[2] <= FAR:
            continue
        for ahead, final in all_heads(*told):
            try:
                found.append(SteadyRun(*told, ahead, final))
            except PostError:
                continue
    return found


def changed_alikes(alikes, line, rand):
    """Tuples of Alikes with one thing changed."""
    yield from [list(alikes), (), None, alikes[1:], alikes[:-1], alikes + alikes[-1:], alikes[::-1], alikes + alikes, (None,) + alikes]
    for at in rand.sample(range(len(alikes)), min(2, len(alikes))):
        paper = alikes[at]
        n, m = paper.one.number, paper.other.number
        others = [None, paper.one, Alike(paper.other, paper.one), Alike(paper.one, paper.one), Alike(None, paper.other)]
        for far in (line.stamp.cycle, 1, -1, 10 ** 61):
            if 0 <= min(n, m) + far and max(n, m) + far <= FAR:
                others += [alike(line, n + far, m + far), alike(line, n, m + far)]
        for other in others:
            yield alikes[:at] + (other,) + alikes[at + 1:]
        yield alikes[:at] + alikes[at + 1:]
        yield alikes[:at] + (paper,) + alikes[at:]
        yield alikes[:at] + alikes[at:at + 2][::-1] + alikes[at + 2:]


class Check(unittest.TestCase):

    def check(self, paper, line, counts):
        fine = meeting.is_right_met(paper, line)
        self.assertIs(look_met(paper, line), fine, vars(paper))
        counts[fine] += 1

    def check_once(self, paper, line, counts):
        fine = meeting.is_right_once(paper, line)
        self.assertIs(look_once(paper, line), fine, vars(paper))
        counts[fine] += 1


def lines_by(most):
    """Triples of a line and an early and a late that make its span."""
    found = []
    for line in LINES:
        s = span(line)
        if 2 <= s <= most and line.stamp.cycle <= 60:
            found += [(line, early, s - early) for early in range(1, s)]
    return found


TRIPLES = lines_by(5)


class TestMetTwins(Check):

    def papers(self, rand, many):
        found = []
        while len(found) < many:
            line, early, late = rand.choice(TRIPLES)
            place = rand.choice((1, late - 1, late, late + 1, late + 7, 10 ** 59, FAR))
            paper = met_line(line, early, late, max(0, place))
            if type(paper) is MetTwins:
                found.append((line, paper))
        return found

    def test_one_part_changed(self):
        rand = random.Random(531)
        counts = [0, 0]
        for line, paper in self.papers(rand, 25):
            parts = parts_of(paper)
            self.check(paper, line, counts)
            self.check(MetTwins(*parts[:3], paper.other, paper.one, paper.alikes), line, counts)
            flipped = tuple(Alike(told.other, told.one) for told in paper.alikes)
            self.check(MetTwins(*parts[:3], paper.other, paper.one, flipped), line, counts)
            for at in range(3):
                for value in (parts[at] + 1, parts[at] - 1, 0, -1, True, None, str(parts[at]), float(parts[at]), 13, 10 ** 60):
                    self.check(with_one(MetTwins, parts, at, value), line, counts)
            self.check(MetTwins(paper.late, paper.early, *parts[2:]), line, counts)
            for at in (3, 4):
                for run in other_runs(parts[at]):
                    told = with_one(MetTwins, parts, at, run)
                    self.check(told, line, counts)
            for alikes in changed_alikes(paper.alikes, line, rand):
                self.check(MetTwins(*parts[:5], alikes), line, counts)
        self.assertGreater(counts[0], 1000)
        self.assertGreater(counts[1], 40)

    def test_all_pairs_of_runs(self):
        """Twins of all pairs of steady runs, where they have an Alike for each place."""
        counts = [0, 0]
        for line in LAGGING[:10]:
            s = span(line)
            for early in range(1, s):
                for place in (0, 2, 5):
                    runs = [SteadyRun(early, s - early, place, ahead) for ahead, final in all_heads(early, s - early, place) if final is None]
                    for one in runs:
                        for other in runs:
                            self.check(self.made(line, one, other), line, counts)
        self.assertGreater(min(counts), 30)

    def made(self, line, one, other):
        many = math.lcm(one.early + one.late, line.stamp.cycle)
        rows = [run.stretch(one.place, many) for run in (one, other)]
        alikes = tuple(alike(line, n, m) for n, m in zip(*rows) if n != m)
        return MetTwins(one.early, one.late, one.place, one, other, alikes)

    def test_other_lines(self):
        rand = random.Random(532)
        counts = [0, 0]
        papers = self.papers(rand, 8)
        for line, _ in self.papers(rand, 12):
            for _, paper in papers:
                self.check(paper, line, counts)
        self.assertGreater(counts[0], 30)

    def test_values_that_are_none(self):
        line = LAGGING[7]
        paper = met_line(line, 2, 2, 6)
        parts = parts_of(paper)
        for value in odd_values():
            for told in (value, *[with_one(MetTwins, parts, at, value) for at in range(6)], MetTwins(*parts[:5], (value, *paper.alikes[1:]))):
                self.assertIs(look_met(told, line), type(told) in (MetTwins, MetForced) and meeting.is_right_met(told, line))
            if type(value).__name__ != "Line":
                for call in (look_met, look_once):
                    self.assertEqual(raised(call, paper, value), ("BadValue", "line"))
                    self.assertEqual(raised(call, value, value), ("BadValue", "line"))
        self.assertIs(look_met(line=line, paper=paper), True)
        self.assertIs(look_once(paper, line), False)
        self.assertIs(look_met(MetForced(*parts[:5]), line), False)


class TestMetForced(Check):

    def papers(self, rand, many):
        found = []
        while len(found) < many:
            line, early, late = rand.choice(TRIPLES)
            if early > 1 and rand.random() < 0.3:
                early -= 1
            place = rand.choice((0, 1, late - 1, late, late + 1, late + 7, 10 ** 59, FAR))
            paper = met_line(line, early, late, max(0, place))
            if type(paper) is MetForced:
                found.append((line, paper))
        return found

    def changed_closed(self, closed, line, s):
        """What can stand in the place of closed."""
        yield from [list(closed), (), None, closed[1:], closed[:-1], closed + closed[-1:], closed[::-1], closed + (None,), (None,) * len(closed), [()]]
        for at, told in enumerate(closed):
            near = told if told is not None else 0
            values = [None, near - s, near + s, near + 2 * s, near + line.stamp.cycle * s, near + 1, near - 1, near + s * 10 ** 61, str(told), float(near), True, (told,), 0]
            for value in values:
                yield closed[:at] + (value,) + closed[at + 1:]
            yield closed[:at] + closed[at:at + 2][::-1] + closed[at + 2:]

    def test_one_part_changed(self):
        rand = random.Random(533)
        counts = [0, 0]
        for line, paper in self.papers(rand, 60):
            parts = parts_of(paper)
            self.check(paper, line, counts)
            for at in range(3):
                for value in (parts[at] + 1, parts[at] - 1, parts[at] + 5, 0, -1, True, None, str(parts[at]), 13, 10 ** 60):
                    self.check(with_one(MetForced, parts, at, value), line, counts)
            self.check(MetForced(paper.late, paper.early, *parts[2:]), line, counts)
            for closed in self.changed_closed(paper.closed, line, paper.early + paper.late):
                self.check(MetForced(*parts[:4], closed), line, counts)
            for least in range(0, paper.table.span + 2):
                self.check(with_one(MetForced, parts, 3, SpanTable(least, paper.table.tables)), line, counts)
            self.check(with_one(MetForced, parts, 3, SpanTable(paper.table.span, paper.table.tables[1:])), line, counts)
            self.check(with_one(MetForced, parts, 3, None), line, counts)
        self.assertGreater(counts[0], 2000)
        self.assertGreater(counts[1], 200)

    def test_lesser_tables(self):
        """A table that shows a lesser span is right, if closed is told for it."""
        line = wide_lines.seen_line(3, 2)
        table = SpanTable(4, span_table(line).tables)
        for place, closed in ((0, ()), (2, (0, 1, 2, 3)), (2, (4, 5, 6, 7)), (2, (None, 1, 2, 3)), (2, (None, None, 2, 3)), (2, ()), (0, (0, 1)), (1, (0, 1, 2)), (1, (0, 1, 2, 3))):
            paper = MetForced(2, 2, place, table, closed)
            self.assertIs(look_met(paper, line), meeting.is_right_met(paper, line))
        self.assertIs(look_met(MetForced(2, 2, 2, table, (0, 1, 2, 3)), line), True)
        self.assertIs(look_met(MetForced(2, 2, 2, span_table(line), ()), line), True)
        self.assertIs(look_met(MetForced(2, 2, 2, span_table(line), (0, 1, 2, 3)), line), False)

    def test_values_that_are_none(self):
        line = LAGGING[6]
        paper = met_line(line, 2, 2)
        parts = parts_of(paper)
        for value in odd_values():
            told = [with_one(MetForced, parts, at, value) for at in range(5)]
            told += [MetForced(*parts[:4], (value, 1, 2, 3)), MetForced(*parts[:4], (None, value, 2, 3))]
            for forced in told:
                self.assertIs(look_met(forced, line), meeting.is_right_met(forced, line))
        self.assertIs(look_met(tuple(parts), line), False)

    def test_rounds(self):
        """A line that comes round too late, and early and late that are too great."""
        line = wide_lines.seen_line(10, 10, 4)
        table = span_table(line)
        for early, late in ((1, 1), (1, 2), (2, 3), (5, 5), (4, 4), (6, 6), (1, 6), (6, 7), (11, 2)):
            for place in (0, 3):
                paper = MetForced(early, late, place, table, ())
                fine = meeting.lets_spread(paper, line)
                self.assertIs(look_met(paper, line), fine)
        self.assertIs(look_met(MetForced(4, 4, 3, table, ()), line), True)
        self.assertIs(look_met(MetForced(1, 2, 3, table, ()), line), False)

    def test_spreads(self):
        """A spread of 12 is looked at, and one of 13 is not."""
        line = wide_lines.seen_line(5, 4)
        table = span_table(line)
        for early in range(1, 13):
            for late in range(1, 13):
                paper = MetForced(early, late, 3, table, ())
                self.assertIs(look_met(paper, line), early + late <= 12)

    def test_no_table_is_made(self):
        line, _ = wide_lines.above_4000()[3]
        table = SpanTable(2, tables.tables(line))
        for closed in ((), (0, 1), (None, 1), (KNOWN.closed(line, 2, 0), KNOWN.closed(line, 2, 1))):
            paper = MetForced(1, 1, 1, table, closed)
            self.assertIs(look_met(paper, line), meeting.is_right_met(paper, line))


class TestOnceTwins(Check):

    def papers(self, rand, many):
        found = []
        while len(found) < many:
            line, early, late = rand.choice(TRIPLES)
            paper = one_unread(line, early, late)
            if type(paper) is OnceTwins:
                found.append((line, paper))
        return found

    def test_one_part_changed(self):
        rand = random.Random(534)
        counts = [0, 0]
        for line, paper in self.papers(rand, 25):
            parts = parts_of(paper)
            self.check_once(paper, line, counts)
            self.check_once(OnceTwins(*parts[:3], paper.other, paper.one, paper.alikes), line, counts)
            flipped = tuple(Alike(told.other, told.one) for told in paper.alikes)
            self.check_once(OnceTwins(*parts[:3], paper.other, paper.one, flipped), line, counts)
            for at in range(3):
                for value in (parts[at] + 1, parts[at] - 1, 0, -1, True, None, str(parts[at]), float(parts[at]), 13, 10 ** 60, FAR):
                    self.check_once(with_one(OnceTwins, parts, at, value), line, counts)
            for at in (3, 4):
                for run in other_runs(parts[at]):
                    self.check_once(with_one(OnceTwins, parts, at, run), line, counts)
            for alikes in changed_alikes(paper.alikes, line, rand):
                self.check_once(OnceTwins(*parts[:5], alikes), line, counts)
            self.assertIs(look_met(paper, line), False)
        self.assertGreater(counts[0], 1000)
        self.assertGreater(counts[1], 40)

    def test_all_pairs_of_runs(self):
        counts = [0, 0]
        for line in LAGGING[:8]:
            s = span(line)
            for early in range(1, s):
                for place in (1, 2, 5, 6, FAR - 3, FAR):
                    runs = [run for run in other_runs(SteadyRun(early, s - early, place, next(all_heads(early, s - early, place))[0])) if run.final is not None]
                    runs = [run for run in runs if (run.early, run.late, run.place) == (early, s - early, place)]
                    for one in runs:
                        for other in runs:
                            self.check_once(self.made(line, one, other), line, counts)
        self.assertGreater(min(counts), 30)

    def made(self, line, one, other):
        many = math.lcm(one.early + one.late, line.stamp.cycle)
        rows = [run.stretch(one.place, many) for run in (one, other)]
        alikes = tuple(alike(line, n, m) for n, m in zip(*rows) if n != m and max(n, m) <= FAR)
        return OnceTwins(one.early, one.late, one.place - 1, one, other, alikes)

    def test_values_that_are_none(self):
        line = LAGGING[7]
        paper = one_unread(line, 2, 2)
        parts = parts_of(paper)
        for value in odd_values():
            for told in (value, *[with_one(OnceTwins, parts, at, value) for at in range(6)], OnceTwins(*parts[:5], (value, *paper.alikes[1:]))):
                self.assertIs(look_once(told, line), type(told) is OnceTwins and meeting.is_right_once(told, line))
        self.assertIs(look_once(line=line, paper=paper), True)
        self.assertIs(look_once(met_line(LAGGING[6], 2, 2), LAGGING[6]), False)

    def test_far_places(self):
        """A place beyond the bounds is none; numbers of 61 digits are looked at."""
        line = LAGGING[7]
        paper = one_unread(line, 2, 2)
        # The nearest place below the bound that comes as far behind a round as this one.
        unread = FAR - 1 - (FAR - 1 - paper.unread) % 4
        runs = [SteadyRun(2, 2, unread + 1, run.ahead, run.final - paper.unread + unread) for run in (paper.one, paper.other)]
        rows = [run.stretch(unread + 1, 12) for run in runs]
        self.assertGreater(max(rows[0]), FAR)
        alikes = met_line(line, 2, 2, unread + 1).alikes
        far = OnceTwins(2, 2, unread, *runs, alikes)
        self.assertIs(look_once(far, line), meeting.is_right_once(far, line))
        self.assertIs(look_once(OnceTwins(2, 2, FAR, *runs, alikes), line), False)


if __name__ == "__main__":
    unittest.main()
