"""Greatest rules: each part of jumbles, with both papers; frontiers against all jumbles within small bounds."""

import itertools
import time
import unittest

from jumblepost.forced import Forced, decide, is_forced
from jumblepost.greatest import Greatest, frontier, greatest, with_part
from jumblepost.jumbles import Jumble
from jumblepost.lines import Line
from jumblepost.look_designs import look_greatest
from jumblepost.look_forced import look_forced, look_twins
from jumblepost.spans import span
from jumblepost.twins import Twins
from tests import small_lines, wide_lines, written
from tests.helpers import odd_values, raised
from tests.test_jumbles import small_jumbles
from tests.test_spans import readable_lines
from tests.test_twins import SEEN

PARTS = ("early", "late", "lost")


def changed_jumble(jumble, part, amount):
    """The jumble with another amount, by the words of the document."""
    told = {"early": jumble.early, "late": jumble.late, "lost": jumble.lost, part: amount}
    apart = max(1, written.spread_of(told["early"], told["late"])) if jumble.apart else 0
    return Jumble(told["early"], told["late"], told["lost"], jumble.again, apart)


def all_jumbles(most, lost):
    """All jumbles of a frontier with these bounds: early and late are both 0, or both above it."""
    for early, late in [(0, 0), *itertools.product(range(1, most + 1), repeat=2)]:
        for gone, again in itertools.product(range(lost + 1), (False, True)):
            for apart in range(max(1, written.spread_of(early, late)) + 1):
                yield Jumble(early, late, gone, again, apart)


class TestParts(unittest.TestCase):

    def test_with_part(self):
        for jumble in small_jumbles(4, 3):
            for part in PARTS:
                for amount in (0, 1, 2, 5, 20):
                    told = with_part(jumble, part, amount)
                    self.assertEqual(told, changed_jumble(jumble, part, amount))
                    self.assertEqual(getattr(told, part), amount)
        self.assertEqual(str(with_part(Jumble(1, 2, 0, False, 3), "late", 5)), "early 1 late 5 apart 6")
        self.assertEqual(str(with_part(Jumble(20, 19, 1, True, 2), "late", 20)), "early 20 late 20 lost 1 again apart 40")
        self.assertEqual(str(with_part(Jumble(3, 2, 0, False, 2), "late", 0)), "early 3 late 0 apart 1")
        self.assertEqual(str(with_part(Jumble(3, 2, 0, False, 2), "lost", 7)), "early 3 late 2 lost 7 apart 5")

    def test_refused(self):
        for value in odd_values():
            if type(value) is not Jumble:
                self.assertEqual(raised(with_part, value, value, value), ("BadValue", "jumble"))
                self.assertEqual(raised(greatest, SEEN[3], value, value), ("BadValue", "jumble"))
            if not isinstance(value, Line):
                self.assertEqual(raised(greatest, value, value, value), ("BadValue", "line"))
            self.assertEqual(raised(with_part, Jumble(), value, value), ("BadValue", "part"))
            self.assertEqual(raised(greatest, SEEN[3], Jumble(), value), ("BadValue", "part"))
            if type(value) is not int or not 0 <= value <= 20:
                self.assertEqual(raised(with_part, Jumble(), "early", value), ("BadValue", "amount"))
        for part in ("again", "apart", "spread", "earl", "early late", "", "EARLY", ("early",)):
            self.assertEqual(raised(with_part, Jumble(), part, 99), ("BadValue", "part"))
            self.assertEqual(raised(greatest, SEEN[3], Jumble(), part), ("BadValue", "part"))
        for amount in (-1, 21, True):
            self.assertEqual(raised(with_part, Jumble(), "lost", amount), ("BadValue", "amount"))
        self.assertEqual(with_part(amount=3, part="lost", jumble=Jumble()), Jumble(0, 0, 3))


class TestGreatest(unittest.TestCase):

    def check(self, line, jumble, part):
        told = greatest(line, jumble, part)
        fine = [amount for amount in range(21) if is_forced(line, changed_jumble(jumble, part, amount))]
        if not fine:
            self.assertEqual((told.amount, told.forced), (None, None))
            self.assertFalse(told)
            self.assertEqual(told.beyond, decide(line, changed_jumble(jumble, part, 0)))
            self.assertIs(look_twins(told.beyond, line), True)
            return "none"
        self.assertEqual(fine, list(range(len(fine))))
        self.assertEqual(told.amount, fine[-1])
        self.assertIs(bool(told), True)
        self.assertEqual(told.forced, decide(line, changed_jumble(jumble, part, told.amount)))
        self.assertIs(type(told.forced), Forced)
        self.assertIs(look_forced(told.forced, line), True)
        if told.amount == 20:
            self.assertIsNone(told.beyond)
            return "all"
        self.assertEqual(told.beyond, decide(line, changed_jumble(jumble, part, told.amount + 1)))
        self.assertIs(type(told.beyond), Twins)
        self.assertIs(look_twins(told.beyond, line), True)
        self.assertIs(look_greatest(told, line, jumble, part), True)
        return "some"

    def test_all_parts(self):
        counts = {}
        for d in (1, 2, 3, 5, 8, 20, 40):
            for jumble in list(small_jumbles(3, 3))[::2 if d < 9 else 9] + [Jumble(20, 20), Jumble(0, 20, apart=1), Jumble(20, 1, 0, False, 21)]:
                for part in PARTS:
                    kind = self.check(SEEN[d], jumble, part)
                    counts[kind] = counts.get(kind, 0) + 1
        self.assertGreater(min(counts.values()), 20)
        self.assertEqual(sorted(counts), ["all", "none", "some"])

    def test_amounts_at_the_bound(self):
        line = SEEN[20]
        self.assertEqual(greatest(line, Jumble(0, 3), "late").amount, 20)
        self.assertIsNone(greatest(line, Jumble(0, 3), "late").beyond)
        self.assertEqual(greatest(line, Jumble(1, 3), "late").amount, 19)
        self.assertEqual(greatest(line, Jumble(0, 0), "lost").amount, 19)
        self.assertEqual(greatest(SEEN[40], Jumble(19, 2), "lost").amount, 18)
        self.assertEqual(greatest(SEEN[60], Jumble(19, 2), "lost").amount, 20)
        self.assertEqual(greatest(SEEN[60], Jumble(20, 0), "late").amount, 20)
        self.assertEqual(greatest(line, Jumble(1, 1, 0, False, 1), "lost").amount, 0)
        self.assertEqual(greatest(line, Jumble(1, 1, 2, False, 1), "early").amount, None)
        self.assertEqual(greatest(line, Jumble(1, 1, 2, False, 1), "lost").amount, 0)

    def test_random_lines(self):
        for line in small_lines.small_lines(8, 551) + readable_lines(10, 552):
            for jumble in (Jumble(1, 1), Jumble(0, 2, 1), Jumble(2, 1, 0, True), Jumble(1, 2, 0, False, 3)):
                for part in PARTS:
                    self.check(line, jumble, part)

    def test_tables_that_are_too_great(self):
        line = wide_lines.above_4000()[0][0]
        for part in PARTS:
            self.assertEqual(raised(greatest, line, Jumble(1, 1), part), ("TooMany", "states"))
            # No span is enough, so no table is made.
            told = greatest(line, Jumble(1, 1, 0, True, 1), part)
            self.assertEqual((told.amount, told.beyond.jumble), (None, with_part(Jumble(1, 1, 0, True, 1), part, 0)))
        self.assertEqual(raised(greatest, line, Jumble(1, 1, 2, False, 1), "lost"), ("TooMany", "states"))
        self.assertIsNone(greatest(line, Jumble(1, 1, 2, False, 1), "late").amount)

    def test_names_and_papers(self):
        self.assertEqual(greatest(part="late", jumble=Jumble(2, 2), line=SEEN[5]), greatest(SEEN[5], Jumble(2, 2), "late"))
        for value in odd_values():
            paper = Greatest(value, 1, 2)
            self.assertEqual((paper.amount, paper.forced, paper.beyond), (value, 1, 2))
            self.assertIs(bool(paper), value is not None)
            self.assertEqual(Greatest(beyond=value, forced=value, amount=value), Greatest(value, value, value))
            for other in (Greatest((value, 1), 1, 2), Greatest(value, 2, 2), Greatest(value, 1, 1), value, (value, 1, 2)):
                self.assertNotEqual(paper, other)


class TestFrontier(unittest.TestCase):

    def test_small_bounds(self):
        """Against all jumbles; losses above the span are never forced."""
        for d, line in SEEN.items():
            if d <= 8:
                for most in range(4):
                    fine = [jumble for jumble in all_jumbles(most, d + 1) if is_forced_by(d, jumble)]
                    last = [jumble for jumble in fine if not any(other != jumble and jumble.within(other) for other in fine)]
                    order = sorted(last, key=lambda told: (told.early, told.late, told.lost, told.again, told.apart))
                    self.assertEqual(list(frontier(line, most)), order, (d, most))

    def test_great_spans(self):
        """Losses are bounded by 20."""
        for d in (20, 40, 60):
            told = list(frontier(SEEN[d], 2))
            fine = [jumble for jumble in all_jumbles(2, 20) if is_forced_by(d, jumble)]
            last = [jumble for jumble in fine if not any(other != jumble and jumble.within(other) for other in fine)]
            self.assertEqual(told, sorted(last, key=lambda jumble: (jumble.early, jumble.late, jumble.lost, jumble.again, jumble.apart)))
        self.assertIn(Jumble(2, 2, 20, True), list(frontier(SEEN[60], 2)))

    def test_the_default_bound(self):
        begin = time.process_time()
        for d in (3, 10, 20, 64):
            told = list(frontier(SEEN[d]))
            self.assertEqual(told, list(frontier(SEEN[d], 6)))
            self.assertTrue(all(max(jumble.early, jumble.late) <= 6 for jumble in told))
        self.assertEqual(max(jumble.early for jumble in frontier(SEEN[64], 8)), 8)
        self.assertLess(time.process_time() - begin, 20)

    def test_all_that_is_forced_lies_within(self):
        line = SEEN[7]
        told = list(frontier(line))
        for jumble in all_jumbles(6, 20):
            if is_forced_by(7, jumble):
                self.assertTrue(any(jumble.within(other) for other in told))
            else:
                self.assertNotIn(jumble, told)

    def test_refused(self):
        for value in odd_values():
            if not isinstance(value, Line):
                self.assertEqual(raised(next, frontier(value, value)), ("BadValue", "line"))
            self.assertEqual(raised(next, frontier(SEEN[3], value)), ("BadValue", "most"))
        for most in (-1, 9, True, None):
            self.assertEqual(raised(next, frontier(SEEN[3], most)), ("BadValue", "most"))
        line = wide_lines.above_4000()[0][0]
        self.assertEqual(raised(next, frontier(line)), ("TooMany", "states"))
        self.assertEqual(raised(next, frontier(line, 9)), ("BadValue", "most"))
        self.assertEqual(list(frontier(most=0, line=SEEN[1])), [Jumble(0, 0, 0, False, 1)])


def is_forced_by(least, jumble):
    return jumble.need is not None and least >= jumble.need


class TestSpans(unittest.TestCase):

    def test_lines_have_the_spans_that_are_told(self):
        for d, line in SEEN.items():
            self.assertEqual(span(line), d)


if __name__ == "__main__":
    unittest.main()
