"""Open residues and closed numbers, against all numbers of a round, one by one."""

import math
import time
import unittest

from jumblepost.lines import Line
from jumblepost.residues import closed_number, open_residues
from jumblepost.stamps import Stamp
from jumblepost.stations import Station
from jumblepost.wheels import Wheel
from tests import small_lines, wide_lines
from tests.helpers import odd_values, raised
from tests.test_spans import readable_lines
from tests.test_twins import SEEN


def lagging_line(*wheels):
    """A line on which all signs are seen, of wheels of digits, each told by size, lag and lead."""
    stamp = Stamp(*[Wheel.digits(*wheel) for wheel in wheels])
    return Line(wide_lines.strip(stamp), stamp, Station(stamp.signs, ((0, stamp.signs),)))


# The lower wheel is seen, so of a lower size a the distance a alone can be alike: where the upper wheel is late or early.
LAGGING = [
    lagging_line((2,), (3, 1)), lagging_line((2,), (3, 1, 1)), lagging_line((3,), (2, 1)), lagging_line((3,), (4, 2)), lagging_line((3,), (3, 1, 1)),
    lagging_line((3,), (2, 1, 2)), lagging_line((4,), (3, 1)), lagging_line((4,), (3, 2)), lagging_line((4,), (3, 1, 2)), lagging_line((4,), (2, 0, 3)),
    lagging_line((5,), (3, 0, 2)), lagging_line((5,), (4, 3)), lagging_line((6,), (2, 1, 1)), lagging_line((2,), (2,), (3, 1)), lagging_line((2,), (3, 1), (2, 2)),
    lagging_line((3,), (2,), (2, 1, 1)), lagging_line((4,), (3, 2, 2)), lagging_line((5,), (2, 1)), lagging_line((6,), (3, 0, 1)), lagging_line((7,), (2, 2))]
LINES = LAGGING + small_lines.small_lines(25, 521) + readable_lines(20, 522) + [SEEN[d] for d in (1, 2, 3, 4, 6, 10)]


class Looks:
    """All looks of the numbers of lines, each worked out once."""

    def __init__(self):
        self.known = {}

    def at(self, line, number):
        key = (id(line), number % line.stamp.cycle)
        if key not in self.known:
            self.known[key] = set(small_lines.all_looks(line, number % line.stamp.cycle))
        return self.known[key]

    def alike(self, line, one, other):
        return bool(self.at(line, one) & self.at(line, other))

    def open(self, line, spread):
        """The open residues, by all numbers of a round."""
        most = math.lcm(spread, line.stamp.cycle)
        return tuple(r for r in range(spread) if all(self.alike(line, n, n + spread) for n in range(r, most + r, spread)))

    def closed(self, line, spread, number):
        """The first number that does not look like the one a spread above it."""
        many = math.lcm(spread, line.stamp.cycle) // spread
        told = [number + k * spread for k in range(many)]
        return next((n for n in told if not self.alike(line, n, n + spread)), None)


KNOWN = Looks()


class TestResidues(unittest.TestCase):

    def test_all_spreads(self):
        counts = set()
        for line in LINES:
            for spread in range(1, 13):
                if math.lcm(spread, line.stamp.cycle) <= 400:
                    told = open_residues(line, spread)
                    self.assertEqual(told, KNOWN.open(line, spread), (str(line.stamp), spread))
                    counts.add((spread, len(told)))
        self.assertGreater(len(counts), 40)

    def test_closed_numbers(self):
        found = 0
        for line in LINES:
            for spread in (1, 2, 3, 4, 6, 7, 12):
                if math.lcm(spread, line.stamp.cycle) > 400:
                    continue
                for number in (*range(0, 14), 399, 10 ** 59 + 5, 10 ** 60 - 1, 10 ** 60 - 6):
                    told = closed_number(line, spread, number)
                    self.assertEqual(told, KNOWN.closed(line, spread, number))
                    found += told is not None and told > number
        self.assertGreater(found, 100)

    def test_the_far_end(self):
        """The number told can have 61 digits."""
        far = 0
        for line in LINES:
            for spread in (2, 3, 4, 5):
                if math.lcm(spread, line.stamp.cycle) <= 400:
                    for number in range(10 ** 60 - 12, 10 ** 60):
                        told = closed_number(line, spread, number)
                        self.assertEqual(told, KNOWN.closed(line, spread, number))
                        far += told is not None and told >= 10 ** 60
        self.assertGreater(far, 20)

    def test_the_examples(self):
        line = LAGGING[6]
        self.assertEqual([open_residues(line, 4), open_residues(line, 8), closed_number(line, 4, 9)], [(0,), (0, 4), 9])
        self.assertEqual(open_residues(LAGGING[7], 4), (0, 1))


class TestRefused(unittest.TestCase):

    def test_the_order(self):
        large = wide_lines.seen_line(10, 10, 10)
        for value in odd_values():
            if not isinstance(value, Line):
                self.assertEqual(raised(open_residues, value, value), ("BadValue", "line"))
                self.assertEqual(raised(closed_number, value, value, value), ("BadValue", "line"))
            self.assertEqual(raised(open_residues, large, value), ("BadValue", "spread"))
            self.assertEqual(raised(closed_number, large, value, value), ("BadValue", "spread"))
            if type(value) is not int or not 0 <= value < 10 ** 60:
                self.assertEqual(raised(closed_number, large, 7, value), ("BadValue", "number"))
        for spread in (0, 13, True, "4"):
            self.assertEqual(raised(open_residues, large, spread), ("BadValue", "spread"))
            self.assertEqual(raised(closed_number, large, spread, -1), ("BadValue", "spread"))
        self.assertEqual(raised(closed_number, large, 7, 10 ** 60), ("BadValue", "number"))

    def test_rounds(self):
        for sizes in ((5,), (7,), (10, 4), (10, 10), (4, 9), (8, 5), (10, 10, 2), (10, 10, 4), (10, 5, 8), (9, 9, 5), (6, 6, 10), (7, 8, 7), (8, 7, 7)):
            line = wide_lines.seen_line(*sizes)
            for spread in range(1, 13):
                if math.lcm(spread, line.stamp.cycle) > 400:
                    self.assertEqual(raised(open_residues, line, spread), ("TooMany", "numbers"))
                    self.assertEqual(raised(closed_number, line, spread, 3), ("TooMany", "numbers"))
                else:
                    self.assertEqual(open_residues(line, spread), tuple(range(spread)) if spread % line.stamp.cycle == 0 else ())
        self.assertEqual(open_residues(wide_lines.seen_line(10, 10, 4), 10), ())
        self.assertEqual(raised(open_residues, wide_lines.seen_line(10, 10, 4), 3), ("TooMany", "numbers"))
        self.assertEqual(raised(open_residues, wide_lines.seen_line(7, 7, 9), 1), ("TooMany", "numbers"))

    def test_no_table_is_made(self):
        line = wide_lines.above_4000()[3][0]
        self.assertEqual(line.stamp.cycle, 108)
        self.assertEqual(open_residues(line, 12), KNOWN.open(line, 12))

    def test_many_looks_at_once(self):
        """A round of 384 numbers with many standings and views."""
        begin = time.process_time()
        sizes = (2, 2, 2, 2, 3, 8)
        line = wide_lines.sliding_line(sizes, (0, 1, 1, 1, 1, 1), (3, 0, 5, 1, 4, 2), (11, (2, 5)), (9, (1, 8)))
        self.assertGreater(len(line.views), 15)
        told = open_residues(line, 12)
        self.assertLess(time.process_time() - begin, 15)
        self.assertEqual(told, KNOWN.open(line, 12))

    def test_names(self):
        line = LAGGING[6]
        self.assertEqual(open_residues(spread=4, line=line), (0,))
        self.assertEqual(closed_number(number=0, spread=4, line=line), None)


if __name__ == "__main__":
    unittest.main()
