"""look_table: tables of lines, and tables with one thing changed, against the words of the document."""

import itertools
import random
import time
import unittest

from jumblepost.look_spans import look_table
from jumblepost.spans import SpanTable, span_table
from tests import small_lines, tables, wide_lines
from tests.helpers import odd_values, raised
from tests.test_spans import readable_lines

LINES = small_lines.small_lines(26, 121) + readable_lines(18, 122)


def swapped(rows, at):
    return rows[:at] + rows[at:at + 2][::-1] + rows[at + 2:]


def changed_pairs(pair):
    """What can stand in the place of a pair (state, value)."""
    state, value = pair
    yield from [(state, value - 1), (state, value + 1), (state, 0), (state, -1), (state, True), (state, str(value)), (state, value + 10 ** 70)]
    yield from [(state,), [state, value], (list(state), value), (state, value, value), None, state, (value, state)]
    for at in range(4):
        for part in (0, 1, 2, 3, -1, True, False, None, "0"):
            if repr(part) != repr(state[at]):
                yield state[:at] + (part,) + state[at + 1:], value
    for text in (state[4] + "a", state[4][1:], state[4][::-1], state[4].upper(), "~" * len(state[4]), "\n" * len(state[4]), tuple(state[4]), None):
        if repr(text) != repr(state[4]):
            yield state[:4] + (text,), value
    yield state[:4], value
    yield state + ("",), value


def changed_levels(level, rand):
    """What can stand in the place of a level."""
    for at in rand.sample(range(len(level)), min(2, len(level))):
        for pair in changed_pairs(level[at]):
            yield level[:at] + (pair,) + level[at + 1:]
            yield tuple(sorted(level[:at] + (pair,) + level[at + 1:], key=repr))
        yield level[:at] + level[at + 1:]
        yield level[:at] + level[at:at + 1] + level[at:]
        yield level[:at] + (level[at], (level[at][0], level[at][1] + 1)) + level[at + 1:]
        yield swapped(level, at)
    yield from [list(level), dict(level), None, ()]
    for state in itertools.product((0, 2), (1,), (0, 1), (0, 1), ("", "x", "xy")):
        yield tuple(sorted(level + ((state, rand.randrange(9)),)))
    # One more state, far behind the others, so that no step leads to it.
    for state in ((3, 0, 0, 0), (2, 3, 0, 0), (2, 2, 2, 0), (2, 2, 1, 2), (2, 2, True, 1), (2, 2, 1, 1)):
        yield level + (((*state, "~" * (len(level[0][0][4]) if level else 0)), 10 ** 70),)


def changed_tables(table, rand):
    """SpanTables with one thing changed."""
    told = table.tables
    for value in (table.span - 1, table.span + 1, 1, 0, -1, True, None, str(table.span), (table.span,), float(table.span), 10 ** 60):
        yield SpanTable(value, told)
    for at in rand.sample(range(len(told)), 1):
        view, other, levels = told[at]
        entries = [(view, other), (view, other, levels, levels), [view, other, levels], None, (view, other, list(levels)), (list(view), other, levels)]
        entries += [(view, other, levels[:-1]), (view, other, levels + ((),)), (view, other, levels + levels[-1:]), (view, other, levels[::-1])]
        entries += [(other, view, levels), (view, view, levels), (view + ((),), other, levels), (levels, view, other)]
        entries += [(changed, other, levels) for changed in kinds_changed(view)] + [(view, changed, levels) for changed in kinds_changed(other)]
        for index in range(len(levels)):
            entries += [(view, other, levels[:index] + (level,) + levels[index + 1:]) for level in changed_levels(levels[index], rand)]
        for entry in entries:
            yield SpanTable(table.span, told[:at] + (entry,) + told[at + 1:])
        yield SpanTable(table.span, told[:at] + told[at + 1:])
        yield SpanTable(table.span, told[:at] + told[at:at + 1] + told[at:])
        yield SpanTable(table.span, swapped(told, at))
    yield SpanTable(table.span, list(told))
    yield SpanTable(table.span, told[::-1])


def kinds_changed(view):
    """Views that are equal but for the kind of a cell."""
    for pane, cells in enumerate(view):
        for at, cell in enumerate(cells):
            if cell in (0, 1):
                yield view[:pane] + (cells[:at] + (bool(cell),) + cells[at + 1:],) + view[pane + 1:]


class TestTables(unittest.TestCase):

    def test_tables_of_lines(self):
        for line in LINES:
            self.assertIs(look_table(span_table(line), line), True)
            self.assertIs(look_table(SpanTable(tables.alike_residues(line)[0], tables.tables(line)), line), True)

    def test_lesser_and_greater_spans(self):
        for line in LINES:
            table = span_table(line)
            for least in range(0, line.stamp.cycle + 2):
                self.assertIs(look_table(SpanTable(least, table.tables), line), 1 <= least <= table.span)

    def test_lesser_values(self):
        """Values may be too small, if the ends of the last level are great enough."""
        rand = random.Random(123)
        right = wrong = 0
        for line in LINES:
            table = span_table(line)
            for _ in range(3):
                told = tuple(
                    (view, other, tuple(tuple((state, max(0, value - rand.choice((0, 0, 0, 1, 2)))) for state, value in level) for level in levels))
                    for view, other, levels in table.tables)
                for least in (table.span, max(1, table.span - 1), 1):
                    paper = SpanTable(least, told)
                    fine = tables.is_right(paper, line)
                    self.assertIs(look_table(paper, line), fine)
                    right += fine
                    wrong += not fine
        self.assertGreater(right, 30)
        self.assertGreater(wrong, 30)

    def test_other_lines(self):
        papers = [span_table(line) for line in LINES[::5]]
        for line, paper in itertools.product(LINES[::5], papers):
            self.assertIs(look_table(paper, line), tables.is_right(paper, line))

    def test_one_thing_changed(self):
        rand = random.Random(124)
        right = wrong = 0
        for line in LINES[::2]:
            for paper in changed_tables(span_table(line), rand):
                fine = tables.is_right(paper, line)
                self.assertIs(look_table(paper, line), fine, vars(paper))
                right += fine
                wrong += not fine
        self.assertGreater(right, 300)
        self.assertGreater(wrong, 3000)

    def test_great_tables(self):
        begin = time.process_time()
        for line in wide_lines.just_4000():
            table = span_table(line)
            self.assertIs(look_table(table, line), True)
            self.assertIs(look_table(SpanTable(2, table.tables), line), False)
        self.assertLess(time.process_time() - begin, 10)
        # No table is made, so that of a greater line is looked at, too.
        line, _ = wide_lines.above_4000()[1]
        self.assertIs(look_table(SpanTable(1, tables.tables(line)), line), True)

    def test_values_that_are_none(self):
        line = LINES[0]
        table = span_table(line)
        for value in odd_values():
            for paper in (value, SpanTable(value, table.tables), SpanTable(table.span, value), SpanTable(1, (value,)), (1, table.tables)):
                fine = type(paper) is SpanTable and tables.is_right(paper, line)
                self.assertIs(look_table(paper, line), fine)
            if type(value).__name__ != "Line":
                self.assertEqual(raised(look_table, table, value), ("BadValue", "line"))
                self.assertEqual(raised(look_table, value, value), ("BadValue", "line"))
        self.assertIs(look_table(line=line, paper=table), True)


if __name__ == "__main__":
    unittest.main()
