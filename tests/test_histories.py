"""Histories: against all rows of numbers written out; refused values in their order; long records."""

import itertools
import random
import time
import unittest

from jumblepost.histories import count_histories, dead_end, is_history, possible_numbers, walk_histories
from jumblepost.jumbles import Jumble
from jumblepost.lines import Line
from jumblepost.looks import looks, shows
from jumblepost.sheets import Cell, Panel, Sheet
from jumblepost.stamps import Stamp
from jumblepost.stations import Station
from jumblepost.unread import readings
from jumblepost.wheels import Wheel
from tests import drawn, small_lines, wide_lines
from tests.helpers import odd_values, raised
from tests.test_spans import readable_lines
from tests.test_twins import SEEN

ONE = Line(Sheet((Panel(1, 1),), (0,), (Cell(0, 0, 0),)), Stamp(Wheel(("a", "b"))), Station(1, ((0, 1),)))
JUMBLES = [
    Jumble(), Jumble(3, 0), Jumble(0, 3), Jumble(1, 1), Jumble(2, 1), Jumble(1, 2), Jumble(2, 2), Jumble(1, 3), Jumble(3, 1),
    Jumble(0, 0, apart=1), Jumble(0, 2, apart=1), Jumble(1, 1, apart=1), Jumble(1, 1, apart=2), Jumble(2, 1, apart=2), Jumble(1, 2, apart=3), Jumble(2, 2, apart=1)]
LINES = [ONE, SEEN[1], SEEN[3], SEEN[4], SEEN[10]] + small_lines.small_lines(12, 211) + readable_lines(12, 212)
CALLS = (count_histories, possible_numbers, dead_end)
MOST = 10 ** 59 - 1
# Looks of the wheel of the faces a and b, and unread letters.
JUST_4000 = [
    (Jumble(5, 4, apart=1), "?b???aabbaba?b?b??aba?b?aaa?a?b?a?a?b?bbabbbbabb?babbbaabb?b?b?"),
    (Jumble(6, 6, apart=1), "?b???aabbbbbbbb?bbba?b?bbabbab"),
    (Jumble(3, 8, apart=1), "?b???aabbaba?b?b??aba?b?aaa?a?b?a?a?b?bbabbaab?ab???bbbbaaaaab?baaa?a"),
]


def all_rows(line, jumble, record, first):
    """All histories, ascending, by going through all rows of numbers that are near their places."""
    many = len(record)
    near = [[n for n in range(max(first, first + i - jumble.late), first + i + jumble.early + 1)] for i in range(many)]
    found = []
    for row in itertools.product(*near):
        if len(set(row)) < many:
            continue
        if not all(n in row for n in range(first, first + many) if n + jumble.late - first < many):
            continue
        if all(item is None or shows(line, n, item) for n, item in zip(row, record)):
            found.append(row)
    return found


def drawn_record(rand, jumble, line, first, many):
    """A record of a run that fits, perhaps with one look changed."""
    letters = [first + n for n in drawn.drawn_run(rand, jumble, many)]
    unread = drawn.drawn_unread(rand, jumble, many)
    record = [None if place in unread else rand.choice(looks(line, n)) for place, n in enumerate(letters)]
    if many and rand.random() < 0.4:
        place = rand.randrange(many)
        if record[place] is not None:
            record[place] = rand.choice(looks(line, rand.randrange(12)))
    return tuple(record)


class TestAgainstAllRows(unittest.TestCase):

    def check(self, line, jumble, record, first):
        """One record; how many histories it has."""
        rows = all_rows(line, jumble, record, first)
        self.assertEqual(count_histories(line, jumble, record, first), len(rows))
        self.assertEqual(list(walk_histories(line, jumble, record, first)), rows)
        possible = tuple(tuple(sorted({row[place] for row in rows})) for place in range(len(record)))
        self.assertEqual(possible_numbers(line, jumble, record, first), possible)
        ends = [p for p in range(len(record)) if not all_rows(line, jumble, record[:p + 1], first)] if not rows else []
        self.assertEqual(dead_end(line, jumble, record, first), ends[0] if ends else None)
        return rows

    def check_rows(self, rand, line, jumble, record, first, rows):
        """is_history for the histories, and for rows that are like them."""
        known = set(rows)
        told = rand.sample(rows, min(4, len(rows))) or [tuple(range(first, first + len(record)))]
        for row in told:
            for other in changed_rows(rand, row, first):
                self.assertIs(is_history(line, jumble, record, other, first), is_strict(other) and other in known, other)

    def test_small_records(self):
        rand = random.Random(213)
        counts = []
        for jumble in JUMBLES:
            for line in rand.sample(LINES, 14):
                first = rand.choice((0, 0, 1, 5, MOST))
                record = drawn_record(rand, jumble, line, first, rand.choice((0, 1, 2, 3, 4, 5)))
                rows = self.check(line, jumble, record, first)
                self.check_rows(rand, line, jumble, record, first, rows)
                counts.append(len(rows))
        self.assertGreater(counts.count(0), 20)
        self.assertGreater(counts.count(1), 40)
        self.assertGreater(len([count for count in counts if count > 1]), 60)

    def test_all_records_of_two_faces(self):
        for jumble in (Jumble(1, 1), Jumble(2, 1), Jumble(1, 1, apart=2), Jumble(0, 2)):
            for many in range(6):
                for record in itertools.product(*[[("a",), ("b",)]] * many):
                    self.check(ONE, jumble, record, 0)
        for record in itertools.product((("a",), ("b",), None, ("x",)), repeat=4):
            if record.count(None) < 2:
                self.check(ONE, Jumble(1, 1, apart=1), record, 2)

    def test_drawn_runs_are_histories(self):
        rand = random.Random(214)
        for jumble in JUMBLES:
            for line in rand.sample(LINES, 8):
                many = rand.choice((10, 30))
                first = rand.choice((0, MOST))
                letters = [first + n for n in drawn.drawn_run(rand, jumble, many)]
                unread = drawn.drawn_unread(rand, jumble, many)
                record = tuple(None if place in unread else rand.choice(looks(line, n)) for place, n in enumerate(letters))
                self.assertIs(is_history(line, jumble, record, tuple(letters), first), True)
                self.assertIsNone(dead_end(line, jumble, record, first))
                self.assertGreater(count_histories(line, jumble, record, first), 0)
                for place, n in enumerate(letters):
                    self.assertIn(n, possible_numbers(line, jumble, record, first)[place])

    def test_what_readers_tell_is_settled(self):
        rand = random.Random(215)
        for jumble in JUMBLES:
            line = SEEN[10]
            record = drawn_record(rand, jumble, line, 4, 12)
            if jumble.need is not None and dead_end(line, jumble, record, 4) is None:
                told = dict(readings(line, jumble, record, 4))
                possible = possible_numbers(line, jumble, record, 4)
                for place, number in told.items():
                    self.assertEqual(possible[place], (number,))

    def test_the_facts_of_settling(self):
        """The example of [23]: two histories live as long as the looks go on; the first other look settles."""
        jumble = Jumble(1, 1, apart=2)
        told = [None] + [("a",), ("b",)] * 6
        self.assertEqual(list(walk_histories(ONE, jumble, tuple(told[:6]))), [(0, 2, 1, 4, 3, 6), (1, 0, 3, 2, 5, 4)])
        for many in range(1, len(told) + 1):
            self.assertEqual(possible_numbers(ONE, jumble, tuple(told[:many]))[0], (0, 1))
        self.assertEqual(len(possible_numbers(ONE, jumble, tuple(told[:5]) + (("b",),))[0]), 1)

    def test_the_example(self):
        a, b, jumble = ("a",), ("b",), Jumble(early=2, late=1)
        self.assertEqual([count_histories(ONE, jumble, (a, b)), list(walk_histories(ONE, jumble, (a, b, b)))], [2, [(0, 1, 3), (0, 3, 1)]])
        self.assertEqual(
            [possible_numbers(ONE, jumble, (a, b, b, a)), dead_end(ONE, jumble, (a, a, a, b)), is_history(ONE, jumble, (a, b, b), (2, 1, 3))],
            [((0,), (1, 3), (1, 3), (2,)), 2, False])


def is_strict(row):
    return type(row) is tuple and all(type(n) is int for n in row)


def changed_rows(rand, row, first):
    """Rows like one, but for one thing."""
    yield row
    yield from [list(row), row + (first + len(row),), row[:-1], row[::-1], row + row[-1:], None, (row,)]
    for at in range(len(row)):
        yield row[:at] + row[at:at + 2][::-1] + row[at + 2:]
        for n in (row[at] + 1, row[at] - 1, row[at] + 2, first - 1, float(row[at]), str(row[at]), None, bool(row[at]), row[at] + 10 ** 61, row[at - 1]):
            yield row[:at] + (n,) + row[at + 1:]


class TestLongRecords(unittest.TestCase):

    def test_at_once(self):
        begin = time.process_time()
        rand = random.Random(216)
        for jumble in (Jumble(1, 1), Jumble(2, 2), Jumble(6, 6), Jumble(1, 11, apart=12), Jumble(0, 20), Jumble(20, 0)):
            for line in (SEEN[14], wide_lines.seen_line(10, 10, 10, 10)):
                letters = [MOST + n for n in drawn.drawn_run(rand, jumble, 200)]
                record = tuple(looks(line, n)[0] for n in letters)
                self.assertEqual(list(walk_histories(line, jumble, record, MOST)), [tuple(letters)])
                self.assertEqual(count_histories(line, jumble, record, MOST), 1)
                self.assertEqual(possible_numbers(line, jumble, record, MOST), tuple((n,) for n in letters))
                self.assertIs(is_history(line, jumble, record, tuple(letters), MOST), True)
        self.assertLess(time.process_time() - begin, 30)

    def test_many_histories(self):
        """As many as there are, the first ones at once."""
        begin = time.process_time()
        record = (("",),) * 200
        one, two = 1, 2
        for _ in range(199):
            one, two = two, one + two
        self.assertEqual(count_histories(SEEN[1], Jumble(1, 1), record), two)
        told = walk_histories(SEEN[1], Jumble(1, 1), record)
        rows = [next(told) for _ in range(50)]
        self.assertEqual(rows[0], tuple(range(200)))
        self.assertEqual(rows, sorted(rows))
        self.assertTrue(all(is_history(SEEN[1], Jumble(1, 1), record, row) for row in rows))
        self.assertEqual(possible_numbers(SEEN[1], Jumble(1, 1), record)[100], tuple(range(99, 102)))
        self.assertLess(time.process_time() - begin, 10)

    def test_dead_ends(self):
        record = tuple((str(n % 10),) for n in range(200))
        for place in (0, 1, 57, 199):
            broken = record[:place] + ((str((place + 5) % 10),),) + record[place + 1:]
            self.assertEqual(dead_end(SEEN[10], Jumble(1, 1), broken), place)
            self.assertEqual(count_histories(SEEN[10], Jumble(1, 1), broken), 0)
            self.assertEqual(possible_numbers(SEEN[10], Jumble(1, 1), broken), ((),) * 200)
            self.assertEqual(list(walk_histories(SEEN[10], Jumble(1, 1), broken)), [])


def many_states(jumble, many):
    """How many states the levels of a record have together if all looks can be shown by all numbers."""
    found = 0
    level = {frozenset()}
    for place in range(many + 1):
        found += len(level)
        behind = set()
        for told in level:
            for n in range(max(0, place - jumble.late), place + jumble.early + 1):
                come = told | {n}
                if n not in told and (place < jumble.late or place - jumble.late in come):
                    behind.add(come - {place - jumble.late})
        level = behind
    return found


class TestTooMany(unittest.TestCase):

    def test_up_to_the_last_length(self):
        """Records of letters of which nothing is seen: all that can come is open."""
        for jumble in (Jumble(4, 3), Jumble(2, 9), Jumble(6, 6), Jumble(4, 4, apart=2)):
            many = 0
            while many_states(jumble, many + 1) <= 4000:
                many += 1
            record = (("",),) * many
            self.assertLess(many, 200)
            self.assertGreater(count_histories(SEEN[1], jumble, record), 0)
            self.assertIsNone(dead_end(SEEN[1], jumble, record))
            for more in (record + (("",),), record + (("",), ("x",)), (("",),) * 200):
                for call in CALLS:
                    self.assertEqual(raised(call, SEEN[1], jumble, more), ("TooMany", "states"))
                self.assertEqual(raised(next, walk_histories(SEEN[1], jumble, more)), ("TooMany", "states"))
                if more[-1] == ("",):
                    self.assertIs(is_history(SEEN[1], jumble, more, tuple(range(len(more)))), True)

    def test_just_4000(self):
        for jumble, text in JUST_4000:
            record = tuple(None if sign == "?" else (sign,) for sign in text)
            self.assertEqual(states_of(ONE, jumble, record), 4000)
            self.assertGreater(count_histories(ONE, jumble, record), 0)
            self.assertIsNone(dead_end(ONE, jumble, record))
            self.assertEqual(len(possible_numbers(ONE, jumble, record)), len(record))
            self.assertEqual(len(next(walk_histories(ONE, jumble, record))), len(record))
            longer = [record + (more,) for more in (None, ("a",), ("b",))]
            longer = [told for told in longer if states_of(ONE, jumble, told) > 4000]
            self.assertIn(record + (None,), longer)
            for told in longer:
                for call in CALLS:
                    self.assertEqual(raised(call, ONE, jumble, told), ("TooMany", "states"))
            # Nothing is shown, so no state more is there.
            self.assertEqual(dead_end(ONE, jumble, record + (("x",),)), len(record))
            self.assertEqual(count_histories(ONE, jumble, record + (("x",), ("a",))), 0)

    def test_spreads(self):
        for jumble in (Jumble(6, 7), Jumble(20, 20), Jumble(1, 12, apart=13)):
            for call in CALLS:
                self.assertEqual(raised(call, ONE, jumble, (7,)), ("TooMany", "spread"))
            self.assertEqual(raised(next, walk_histories(ONE, jumble, (7,))), ("TooMany", "spread"))
            self.assertEqual(raised(is_history, ONE, jumble, (7,), ()), ("TooMany", "spread"))
        self.assertEqual(count_histories(ONE, Jumble(6, 6), (("a",),)), 4)
        self.assertEqual(count_histories(ONE, Jumble(20, 0), (("a",),)), 1)


def states_of(line, jumble, record):
    """The number of states of all levels, by going through them."""
    level = {()}
    found = 1
    for place, item in enumerate(record):
        behind = set()
        for told in level:
            for n in range(max(0, place - jumble.late), place + jumble.early + 1):
                if n in told or not (item is None or shows(line, n, item)):
                    continue
                come = {*told, n}
                if place < jumble.late or place - jumble.late in come:
                    behind.add(tuple(sorted(come - {place - jumble.late})))
        level = behind
        found += len(level)
    return found


class TestRefused(unittest.TestCase):

    def calls(self, *args):
        """All functions with these arguments."""
        found = [(call, *args) for call in CALLS]
        found.append((lambda *told: next(walk_histories(*told), None), *args))
        line, jumble, record, *first = args
        return found + [(is_history, line, jumble, record, (), *first)]

    def check(self, told, *args):
        for call in self.calls(*args):
            self.assertEqual(raised(*call), told, args)

    def test_the_order(self):
        for value in odd_values():
            if not isinstance(value, Line):
                self.check(("BadValue", "line"), value, value, value, value)
            if type(value) is not Jumble:
                self.check(("BadValue", "jumble"), ONE, value, value, value)
            if not isinstance(value, tuple):
                self.check(("BadValue", "record"), ONE, Jumble(7, 7), value, value)
            self.check(("BadValue", "first"), ONE, Jumble(7, 7), (7,), value)
        for jumble in (Jumble(1, 1, 1), Jumble(0, 0, 0, True), Jumble(20, 20, 1), Jumble(1, 1, 0, True, 1)):
            self.check(("BadValue", "jumble"), ONE, jumble, None, None)
        self.check(("BadValue", "record"), ONE, Jumble(7, 7), (None,) * 201, None)
        self.check(("BadValue", "record"), ONE, Jumble(7, 7), [("a",)], None)
        for first in (10 ** 59, -1, True):
            self.check(("BadValue", "first"), ONE, Jumble(7, 7), (7,), first)
        self.check(("TooMany", "spread"), ONE, Jumble(7, 7), (7,), 3)
        self.check(("BadRecord", 150), SEEN[1], Jumble(6, 6), (("",),) * 150 + (7,), 3)

    def test_records(self):
        for value in odd_values() + [("a", "b"), (1,), ["a"], ("a", None), (("a",),)]:
            if value is not None:
                self.check(("BadRecord", 2), ONE, Jumble(1, 1), (("a",), ("b",), value, 7))
            self.check(("BadRecord", 1), ONE, Jumble(1, 1, apart=2), (None, None, value))
        self.check(("BadRecord", 0), ONE, Jumble(1, 1), (None, 7))
        self.check(("BadRecord", 3), ONE, Jumble(1, 2, apart=3), (("a",), None, ("a",), None))
        self.assertIsNone(dead_end(ONE, Jumble(1, 2, apart=3), (("a",), None, ("b",), ("a",), None)))
        self.assertIsNone(dead_end(ONE, Jumble(0, 2, apart=1), (None, None, None)))
        two = wide_lines.sliding_line((3, 4), (0, 1), (1, 0), (3, (0, 1)), (3, (1, 3)))
        self.check(("BadRecord", 1), two, Jumble(1, 1), (("", ""), ("",)))
        for text in ("~ \n", "x" * 6000, "A", "."):
            self.assertEqual(dead_end(ONE, Jumble(1, 1), ((text,),)), 0)

    def test_any_history(self):
        record = (("a",), ("b",))
        for value in odd_values():
            for row in (value, (0, value), (value, 1)):
                fine = is_strict(row) and row == (0, 1)
                self.assertIs(is_history(ONE, Jumble(1, 1), record, row), fine)
        self.assertIs(is_history(ONE, Jumble(), (), ()), True)
        self.assertIs(is_history(ONE, Jumble(), (), None), False)
        self.assertIs(is_history(ONE, Jumble(), (("b",),), (True,), 1), False)
        self.assertIs(is_history(ONE, Jumble(), (("b",),), (1,), 1), True)
        self.assertIs(is_history(first=1, history=(1,), record=(("b",),), jumble=Jumble(), line=ONE), True)

    def test_names(self):
        more = {"first": 3, "record": (("b",),), "jumble": Jumble(), "line": ONE}
        self.assertEqual(count_histories(**more), 1)
        self.assertEqual(possible_numbers(**more), ((3,),))
        self.assertEqual(list(walk_histories(**more)), [(3,)])
        self.assertIsNone(dead_end(**more))


if __name__ == "__main__":
    unittest.main()
