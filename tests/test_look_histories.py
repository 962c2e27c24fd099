"""look_ledger and look_second: papers as they are, and with one thing changed at any place."""

import random
import unittest

from jumblepost.jumbles import Jumble
from jumblepost.ledger import Ledger, LedgerTable, Second, ledger_table
from jumblepost.look_histories import look_ledger, look_second
from tests.helpers import odd_values, raised
from tests.test_histories import JUMBLES, LINES, MOST, ONE, all_rows, changed_rows, drawn_record, is_strict
from tests.test_ledger import all_levels
from tests.test_twins import SEEN


def lets_record(line, jumble, record, first):
    """Whether any values are a jumble, a record that it lets and a first number, as [24] tells them."""
    if type(jumble) is not Jumble or jumble.lost or jumble.again or jumble.spread > 12:
        return False
    if type(record) is not tuple or len(record) > 200 or type(first) is not int or not 0 <= first < 10 ** 59:
        return False
    places = [place for place, item in enumerate(record) if item is None]
    if places and (jumble.apart == 0 or any(b - a < jumble.apart for a, b in zip(places, places[1:]))):
        return False
    panes = sum(len(station.panes) for station in line.stations)
    looks = [item for item in record if item is not None]
    return all(type(item) is tuple and len(item) == panes and all(type(text) is str for text in item) for item in looks)


class Known:
    """The right levels, and the histories, of records; each is worked out once."""

    def __init__(self):
        self.levels = {}
        self.rows = {}

    def right_levels(self, line, jumble, record, first):
        key = (id(line), str(jumble), record, first)
        if key not in self.levels:
            self.levels[key] = repr(all_levels(line, jumble, record, first))
        return self.levels[key]

    def is_right(self, paper, line):
        if type(paper) is not LedgerTable or not lets_record(line, paper.jumble, paper.looks, paper.first):
            return False
        # Equal kinds are written in one way; names of objects of this package never are.
        return repr(paper.levels) == self.right_levels(line, paper.jumble, paper.looks, paper.first)

    def is_history(self, line, paper, row):
        key = (id(line), str(paper.jumble), paper.looks, paper.first)
        if key not in self.rows:
            self.rows[key] = all_rows(line, paper.jumble, paper.looks, paper.first)
        return is_strict(row) and row in self.rows[key]

    def is_right_second(self, paper, line):
        if type(paper) is not Second or not lets_record(line, paper.jumble, paper.looks, paper.first):
            return False
        if not self.is_history(line, paper, paper.one) or not self.is_history(line, paper, paper.other):
            return False
        place = paper.place
        return type(place) is int and 0 <= place < len(paper.looks) and paper.one[place] < paper.other[place]


def changed_triples(triple):
    """What can stand in the place of a triple (state, ahead, behind)."""
    state, ahead, behind = triple
    for value in (ahead - 1, ahead + 1, 0, -1, True, None, str(ahead), float(ahead), 10 ** 70):
        yield state, value, behind
    for value in (behind - 1, behind + 1, 0, -1, 1, False, True, None, str(behind), -behind):
        yield state, ahead, value
    yield from [(state, behind, ahead), (state, ahead), (state, ahead, behind, 0), [state, ahead, behind], None, state, (list(state), ahead, behind)]
    for at, number in enumerate(state):
        for value in (number + 1, number - 1, -1, float(number), str(number), bool(number), None, 10 ** 60):
            yield state[:at] + (value,) + state[at + 1:], ahead, behind
        yield state[:at] + state[at + 1:], ahead, behind
    yield state[::-1], ahead, behind
    yield state + (7,), ahead, behind
    yield state + state[-1:], ahead, behind


def changed_levels(levels, rand):
    """Levels with one thing changed."""
    for at in range(len(levels)):
        level = levels[at]
        others = [list(level), None, (), level[::-1], level[1:], level[:-1], level + level[-1:], level + (((99,), 1, 0),), level + (((99,), 1, 1),), ((),) + level]
        for index in rand.sample(range(len(level)), min(2, len(level))):
            others += [level[:index] + (triple,) + level[index + 1:] for triple in changed_triples(level[index])]
            others.append(level[:index] + level[index + 1:])
            others.append(level[:index] + (level[index],) + level[index:])
        for other in others:
            yield levels[:at] + (other,) + levels[at + 1:]
        yield levels[:at] + levels[at + 1:]
        yield levels[:at] + (level,) + levels[at:]
    yield from [list(levels), (), None, levels[::-1], levels + ((),), levels[:1], levels[0]]


def changed_jumbles(jumble):
    """Jumbles that are nearly like one, and others."""
    early, late = jumble.early, jumble.late
    for a, b in ((early + 1, late), (early, late + 1), (max(0, early - 1), late), (early, max(0, late - 1)), (late, early), (0, 0), (7, 6)):
        yield Jumble(a, b)
        yield Jumble(a, b, apart=1)
        yield Jumble(a, b, 1)
        yield Jumble(a, b, 0, True)


def changed_records(record, rand):
    """Records that are nearly like one."""
    yield from [list(record), record[:-1], record + (("a",),), record + (None,), record[::-1], (), None]
    for at in rand.sample(range(len(record)), min(3, len(record))):
        for item in (None, ("a",), ("b",), ("",), ["a"], "a", ("a", "b"), (), (None,), 3, ("x",)):
            yield record[:at] + (item,) + record[at + 1:]


class TestLedgerTables(unittest.TestCase):

    def check(self, known, paper, line, counts):
        fine = known.is_right(paper, line)
        self.assertIs(look_ledger(paper, line), fine, vars(paper))
        counts[fine] += 1

    def test_one_thing_changed(self):
        rand = random.Random(511)
        known = Known()
        counts = [0, 0]
        for jumble in JUMBLES:
            for line in rand.sample(LINES, 5):
                first = rand.choice((0, 3, MOST))
                record = drawn_record(rand, jumble, line, first, rand.choice((0, 1, 2, 3, 4)))
                table = ledger_table(line, jumble, record, first)
                self.check(known, table, line, counts)
                for levels in changed_levels(table.levels, rand):
                    self.check(known, LedgerTable(jumble, record, first, levels), line, counts)
                for other in changed_jumbles(jumble):
                    self.check(known, LedgerTable(other, record, first, table.levels), line, counts)
                for other in changed_records(record, rand):
                    self.check(known, LedgerTable(jumble, other, first, table.levels), line, counts)
                for other in (first + 1, first - 1, -1, True, None, str(first), float(first), 10 ** 59, 10 ** 61):
                    self.check(known, LedgerTable(jumble, record, other, table.levels), line, counts)
        self.assertGreater(counts[0], 5000)
        self.assertGreater(counts[1], 80)

    def test_other_lines(self):
        rand = random.Random(512)
        known = Known()
        counts = [0, 0]
        for jumble in JUMBLES[:8]:
            tables = [ledger_table(line, jumble, drawn_record(rand, jumble, line, 0, 3)) for line in rand.sample(LINES, 8)]
            for line in rand.sample(LINES, 8):
                for table in tables:
                    self.check(known, table, line, counts)
        self.assertGreater(min(counts), 20)

    def test_values_that_are_none(self):
        line, jumble, record = ONE, Jumble(1, 1), (("a",), ("b",))
        table = ledger_table(line, jumble, record)
        known = Known()
        for value in odd_values():
            papers = [value, LedgerTable(value, record, 0, table.levels), LedgerTable(jumble, value, 0, table.levels)]
            papers += [LedgerTable(jumble, record, value, table.levels), LedgerTable(jumble, record, 0, value)]
            papers += [LedgerTable(jumble, record, 0, table.levels[:1] + (value,) + table.levels[2:])]
            papers += [LedgerTable(jumble, record, 0, table.levels[:2] + ((value,),)), LedgerTable(jumble, record, 0, table.levels[:2] + (((value, 1, 1),),))]
            papers += [LedgerTable(jumble, record[:1] + (value,), 0, table.levels), LedgerTable(jumble, (), 0, ((((), 1, value),),))]
            for paper in papers:
                self.assertIs(look_ledger(paper, line), known.is_right(paper, line))
            if type(value).__name__ != "Line":
                self.assertEqual(raised(look_ledger, table, value), ("BadValue", "line"))
                self.assertEqual(raised(look_ledger, value, value), ("BadValue", "line"))
        self.assertIs(look_ledger(line=line, paper=table), True)
        self.assertIs(look_ledger(LedgerTable(Jumble(), (), 10 ** 59 - 1, ((((), 1, 1),),)), line), True)

    def test_long_records(self):
        table = ledger_table(SEEN[1], Jumble(1, 1), (("",),) * 200)
        self.assertIs(look_ledger(table, SEEN[1]), True)
        longer = LedgerTable(table.jumble, table.looks + (("",),), 0, table.levels + table.levels[-1:])
        self.assertIs(look_ledger(longer, SEEN[1]), False)
        for at in (0, 1, 100, 199, 200):
            for index in range(len(table.levels[at])):
                state, ahead, behind = table.levels[at][index]
                for triple in ((state, ahead + 1, behind), (state, ahead, behind + 1)):
                    level = table.levels[at][:index] + (triple,) + table.levels[at][index + 1:]
                    paper = LedgerTable(table.jumble, table.looks, 0, table.levels[:at] + (level,) + table.levels[at + 1:])
                    self.assertIs(look_ledger(paper, SEEN[1]), False)


class TestSeconds(unittest.TestCase):

    def papers(self, rand, many):
        """Pairs of a line and a right Second."""
        found = []
        while len(found) < many:
            jumble, line, first = rand.choice(JUMBLES), rand.choice(LINES), rand.choice((0, 4, MOST))
            record = drawn_record(rand, jumble, line, first, rand.choice((2, 3, 4, 5)))
            if all_rows(line, jumble, record, first):
                ledger = Ledger.of(line, jumble, record, first)
                papers = [ledger.second(place) for place in range(len(record))]
                found += [(line, paper) for paper in papers if paper is not None]
        return found[:many]

    def test_one_thing_changed(self):
        rand = random.Random(513)
        known = Known()
        counts = [0, 0]
        for line, paper in self.papers(rand, 60):
            parts = (paper.jumble, paper.looks, paper.first, paper.place, paper.one, paper.other)
            changed = [parts] + [(*parts[:4], paper.other, paper.one), (*parts[:4], paper.one, paper.one), (*parts[:4], paper.other, paper.other)]
            changed += [(jumble, *parts[1:]) for jumble in changed_jumbles(paper.jumble)]
            changed += [(paper.jumble, record, *parts[2:]) for record in changed_records(paper.looks, rand)]
            changed += [(*parts[:2], first, *parts[3:]) for first in (paper.first + 1, paper.first - 1, -1, True, None, 10 ** 59)]
            changed += [(*parts[:3], place, *parts[4:]) for place in (*range(-2, len(paper.looks) + 2), True, None, "0", 0.0)]
            changed += [(*parts[:4], row, paper.other) for row in changed_rows(rand, paper.one, paper.first)]
            changed += [(*parts[:5], row) for row in changed_rows(rand, paper.other, paper.first)]
            for told in changed:
                second = Second(*told)
                fine = known.is_right_second(second, line)
                self.assertIs(look_second(second, line), fine, told)
                counts[fine] += 1
        self.assertGreater(counts[0], 3000)
        self.assertGreater(counts[1], 150)

    def test_pairs_of_rows(self):
        """All pairs of rows of a small record, at all places."""
        rand = random.Random(514)
        known = Known()
        counts = [0, 0]
        for line, paper in self.papers(rand, 12):
            rows = all_rows(line, paper.jumble, paper.looks, paper.first)[:6] + [tuple(range(paper.first, paper.first + len(paper.looks)))]
            for one in rows:
                for other in rows:
                    for place in range(len(paper.looks)):
                        second = Second(paper.jumble, paper.looks, paper.first, place, one, other)
                        fine = known.is_right_second(second, line)
                        self.assertIs(look_second(second, line), fine)
                        counts[fine] += 1
        self.assertGreater(min(counts), 100)

    def test_values_that_are_none(self):
        ledger = Ledger.of(ONE, Jumble(2, 1), (("a",), ("b",), ("b",)))
        paper = ledger.second(1)
        parts = [paper.jumble, paper.looks, paper.first, paper.place, paper.one, paper.other]
        known = Known()
        for value in odd_values():
            papers = [value] + [Second(*parts[:at], value, *parts[at + 1:]) for at in range(6)]
            papers += [Second(*parts[:4], (value, *paper.one[1:]), paper.other), Second(*parts[:5], (*paper.other[:2], value))]
            for told in papers:
                self.assertIs(look_second(told, ONE), known.is_right_second(told, ONE))
            if type(value).__name__ != "Line":
                self.assertEqual(raised(look_second, paper, value), ("BadValue", "line"))
                self.assertEqual(raised(look_second, value, value), ("BadValue", "line"))
        self.assertIs(look_second(line=ONE, paper=paper), True)

    def test_no_table_is_made(self):
        """A record that has too many states is looked at, too."""
        many = 60
        record = (("",),) * many
        row = tuple(range(many))
        far = (1, 0, *row[2:])
        self.assertEqual(raised(Ledger.of, SEEN[1], Jumble(6, 6), record), ("TooMany", "states"))
        self.assertIs(look_second(Second(Jumble(6, 6), record, 0, 0, row, far), SEEN[1]), True)
        self.assertIs(look_second(Second(Jumble(6, 6), record, 0, 1, row, far), SEEN[1]), False)
        self.assertIs(look_second(Second(Jumble(6, 6), record, 0, 1, far, row), SEEN[1]), True)
        self.assertIs(look_second(Second(Jumble(6, 7), record, 0, 0, row, far), SEEN[1]), False)


if __name__ == "__main__":
    unittest.main()
