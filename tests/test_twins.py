"""Twins: each row of the table of [20], at spans below the need; None from the need on."""

import itertools
import unittest

from jumblepost.jumbles import Jumble
from jumblepost.look_sightings import look_alike
from jumblepost.looks import are_alike
from jumblepost.runs import Run, fits
from jumblepost.sightings import Alike
from jumblepost.spans import nearest_pair, span
from jumblepost.twins import Twins, twins
from tests import small_lines, wide_lines
from tests.helpers import odd_values, raised
from tests.test_jumbles import small_jumbles
from tests.test_spans import readable_lines

# Lines by their spans.
SEEN = {d: wide_lines.seen_line(*sizes) for d, sizes in {
    2: (2,), 3: (3,), 4: (2, 2), 5: (5,), 6: (3, 2), 7: (7,), 8: (4, 2), 9: (9,), 10: (10,), 12: (4, 3), 14: (7, 2),
    20: (5, 4), 40: (8, 5), 60: (10, 6), 64: (8, 8)}.items()}
SEEN[1] = wide_lines.blind_line(2, 3)


def laid(placed, begin, end, rest):
    """The numbers at the places from begin to end: some are told, the rest stand ascending."""
    rest = sorted(rest)
    return tuple([placed[place] if place in placed else rest.pop(0) for place in range(begin, end + 1)])


def expected(jumble, d, n):
    """The row that applies, begin, both heads, both tuples of lost numbers, and the unread places."""
    a, b, g, apart = jumble.early, jumble.late, jumble.lost, jumble.apart
    s = a + b if a and b else 0
    if 0 < apart < s:
        x = max(0, apart - b)
        rest = set(range(apart + 1)) - {x, x + 1}
        return 1, 0, laid({0: x, apart: x + 1}, 0, apart, rest), laid({0: x + 1, apart: x}, 0, apart, rest), (), (), (0, apart)
    if apart and g:
        return 2, 0, (0,), (1,), (1,), (0,), (0,)
    if apart and jumble.again:
        return 3, 0, (0, 0, 1), (0, 1, 1), (), (), (1,)
    skip = max(0, d - 1 - s)
    gone = tuple(range(n + 1, n + skip + 1))
    mid = set(range(n + skip + 1, n + d))
    if d <= s - 1:
        q = max(n, n + d - a)
        return 4, n, laid({q: n, q + 1: n + d}, n, n + d, mid), laid({q: n + d, q + 1: n}, n, n + d, mid), (), (), ()
    if g and d <= s + g:
        r = n + d - 1 - skip
        q = max(n, r - a)
        return 5, n, laid({q: n}, n, r, mid), laid({q: n + d}, n, r, mid), gone + (n + d,), (n,) + gone, ()
    if jumble.again and d <= s + g + 1:
        r = n + d - skip
        q = max(n + 1, r - a)
        ends = {n: n, r + 1: n + d}
        return 6, n, laid({**ends, q: n}, n, r + 1, mid), laid({**ends, q: n + d}, n, r + 1, mid), gone, gone, ()
    rest = mid - {n + a}
    one = laid({n: n + a, n + b: n, n + s: n + s}, n, n + s, rest)
    return 7, n, one, laid({n: n, n + b: n + s, n + s: n + a}, n, n + s, rest), (), (), (n, n + s)


class TestTable(unittest.TestCase):

    def check(self, line, jumble, d):
        """Twins of a line with span d, whose need is greater; the row that applies."""
        paper = twins(line, jumble)
        self.assertIs(type(paper), Twins)
        self.assertFalse(paper)
        n = paper.one.begin
        row, begin, one, other, lost, far_lost, unread = expected(jumble, d, n)
        self.assertEqual(paper.jumble, jumble)
        self.assertEqual(paper.one, Run(begin, one, lost))
        self.assertEqual(paper.other, Run(begin, other, far_lost))
        self.assertEqual(paper.unread, unread)
        if row > 3:
            self.assertLess(n, line.stamp.cycle)
            self.assertTrue(are_alike(line, n, n + d))
        places = [begin + at for at in range(len(one)) if one[at] != other[at]]
        self.assertEqual(paper.place, places[0])
        read = [place for place in places if place not in unread]
        self.assertEqual(len(paper.alikes), len(read))
        self.assertIs(type(paper.alikes), tuple)
        for place, alike in zip(read, paper.alikes):
            self.assertIs(type(alike), Alike)
            self.assertEqual((alike.one.number, alike.other.number), (one[place - begin], other[place - begin]))
            self.assertIs(look_alike(alike, line), True)
        self.assertTrue(fits(paper.one, jumble, unread))
        self.assertTrue(fits(paper.other, jumble, unread))
        end = begin + len(one)
        self.assertEqual(paper.one.stretch(end, 90), paper.other.stretch(end, 90))
        self.assertEqual(paper.one.stretch(0, min(begin, 900)), paper.other.stretch(0, min(begin, 900)))
        return row

    def test_all_small_jumbles(self):
        rows = {}
        for d in (1, 2, 3, 4, 5, 6, 7, 8, 9, 10):
            for jumble in small_jumbles(4, 3):
                need = jumble.need
                if need is not None and d >= need:
                    self.assertIsNone(twins(SEEN[d], jumble))
                else:
                    row = self.check(SEEN[d], jumble, d)
                    rows[row] = rows.get(row, 0) + 1
        self.assertEqual(sorted(rows), [1, 2, 3, 4, 5, 6, 7])
        self.assertGreater(min(rows.values()), 5)

    def test_just_below_the_need_and_at_it(self):
        """For each row a jumble with a need for which there are lines with this span and the one below."""
        jumbles = [
            (4, Jumble(2, 2)), (4, Jumble(1, 9)), (4, Jumble(8, 2)), (4, Jumble(20, 1)), (5, Jumble(1, 1, 1)), (5, Jumble(0, 3, 2)), (5, Jumble(2, 3, 4)),
            (5, Jumble(0, 0, 9)), (6, Jumble(0, 0, 0, True)), (6, Jumble(1, 1, 0, True)), (6, Jumble(1, 2, 3, True)), (6, Jumble(0, 5, 5, True)), (6, Jumble(3, 2, 1, True)),
            (7, Jumble(1, 1, apart=2)), (7, Jumble(1, 4, apart=5)), (7, Jumble(6, 2, apart=8)),
        ]
        for row, jumble in jumbles:
            for d in sorted(SEEN):
                if d < jumble.need:
                    last = self.check(SEEN[d], jumble, d)
                else:
                    self.assertIsNone(twins(SEEN[d], jumble))
            self.assertEqual(last, row)
            below = jumble.need - 1
            if below in SEEN:
                self.assertEqual(self.check(SEEN[below], jumble, below), row)

    def test_the_greatest_jumbles(self):
        great = [Jumble(20, 20), Jumble(20, 20, 20), Jumble(20, 20, 20, True), Jumble(20, 20, apart=40), Jumble(20, 20, 0, True), Jumble(0, 20, 20), Jumble(20, 20, 20, True, 40)]
        for jumble, d in itertools.product(great, (1, 7, 20, 40, 60, 64)):
            if jumble.need is not None and d >= jumble.need:
                self.assertIsNone(twins(SEEN[d], jumble))
            else:
                self.check(SEEN[d], jumble, d)
        rows = [self.check(SEEN[60], Jumble(20, 20, 20), 60), self.check(SEEN[60], Jumble(20, 20, 19, True), 60), self.check(SEEN[40], Jumble(20, 20, apart=40), 40)]
        self.assertEqual(rows, [5, 6, 7])

    def test_lines_of_all_kinds(self):
        rows = {}
        for line in small_lines.small_lines(25, 151) + readable_lines(25, 152):
            d = span(line)
            for jumble in list(small_jumbles(3, 2))[::3] + [Jumble(3, 3), Jumble(4, 3, 2, True), Jumble(4, 4, apart=8)]:
                if jumble.need is not None and d >= jumble.need:
                    self.assertIsNone(twins(line, jumble))
                else:
                    row = self.check(line, jumble, d)
                    rows[row] = rows.get(row, 0) + 1
                    self.assertEqual(twins(line, jumble), twins(line, jumble))
        self.assertEqual(sorted(rows), [1, 2, 3, 4, 5, 6, 7])

    def test_pairs_above_0(self):
        """Lines on which the nearest pair is not that of 0."""
        rows = {}
        for figure, distance in itertools.product((1, 3, 4), (1, 2, 3, 4, 5)):
            line = wide_lines.near_line(figure, distance)
            self.assertEqual(span(line), distance)
            for jumble in small_jumbles(4, 3):
                if jumble.need is None or distance < jumble.need:
                    row = self.check(line, jumble, distance)
                    rows[row] = rows.get(row, 0) + 1
                    if row > 3 and distance < 5:
                        self.assertEqual(twins(line, jumble).one.begin, figure)
                else:
                    self.assertIsNone(twins(line, jumble))
        self.assertEqual(sorted(rows), [1, 2, 3, 4, 5, 6, 7])

    def test_by_hand(self):
        """One wheel of three faces, so the span is 3: rows of the table, written out."""
        line = SEEN[3]
        n = nearest_pair(line).one.number
        told = {
            "early 2 late 2": ("1 0 3 2", "1 3 0 2", "", ""),
            "early 1 late 3": ("1 2 0 3", "1 2 3 0", "", ""),
            "early 3 late 1": ("0 3 1 2", "3 0 1 2", "", ""),
            "early 1 late 1 lost 1": ("1 0 2", "1 3 2", "3", "0"),
            "early 0 late 0 lost 3": ("0", "3", "1 2 3", "0 1 2"),
            "early 1 late 1 again": ("0 1 0 2 3", "0 1 3 2 3", "", ""),
            "early 1 late 2 apart 3": ("1 2 0 3", "0 2 3 1", "", ""),
            "early 2 late 1 apart 3": ("2 0 1 3", "0 3 1 2", "", ""),
        }
        for text, (one, other, lost, far_lost) in told.items():
            paper = twins(line, Jumble.read(text))
            rows = [[int(word) + n for word in row.split()] for row in (one, other, lost, far_lost)]
            self.assertEqual((paper.one, paper.other), (Run(n, rows[0], rows[2]), Run(n, rows[1], rows[3])), text)


class TestRefused(unittest.TestCase):

    def test_errors_in_their_order(self):
        line = SEEN[3]
        great = wide_lines.above_4000()[0][0]
        for value in odd_values():
            if type(value).__name__ != "Line":
                self.assertEqual(raised(twins, value, value), ("BadValue", "line"))
            if type(value) is not Jumble:
                self.assertEqual(raised(twins, line, value), ("BadValue", "jumble"))
                self.assertEqual(raised(twins, great, value), ("BadValue", "jumble"))
        self.assertEqual(raised(twins, great, Jumble()), ("TooMany", "states"))
        self.assertEqual(twins(great, Jumble(2, 2, apart=1)), twins(line, Jumble(2, 2, apart=1)))
        self.assertIsNone(twins(jumble=Jumble(), line=line))


class TestPaper(unittest.TestCase):

    def test_of_any_values(self):
        names = ("jumble", "place", "one", "other", "unread", "alikes")
        for value in odd_values():
            paper = Twins(value, 1, 2, 3, 4, 5)
            self.assertEqual([getattr(paper, name) for name in names], [value, 1, 2, 3, 4, 5])
            self.assertEqual(paper, Twins(alikes=5, unread=4, other=3, one=2, place=1, jumble=value))
            for at in range(6):
                args = [value, 1, 2, 3, 4, 5]
                args[at] = (value, 0)
                self.assertNotEqual(paper, Twins(*args))
            self.assertNotEqual(paper, value)
            self.assertIs(bool(paper), False)


if __name__ == "__main__":
    unittest.main()
