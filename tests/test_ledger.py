"""Ledgers: asked behind each look, against all rows of numbers written out; what is refused changes nothing."""

import itertools
import random
import time
import unittest

from jumblepost.jumbles import Jumble
from jumblepost.ledger import Ledger, LedgerTable, Second, ledger_table
from jumblepost.lines import Line
from jumblepost.look_histories import look_ledger, look_second
from jumblepost.looks import looks
from tests import drawn, wide_lines
from tests.helpers import odd_values, raised
from tests.test_histories import JUMBLES, JUST_4000, LINES, MOST, ONE, all_rows, changed_rows, drawn_record, is_strict
from tests.test_twins import SEEN


def state_of(row, jumble, first):
    """The state to which a row of numbers leads."""
    return tuple(sorted(n for n in row if n >= first + len(row) - jumble.late))


def all_levels(line, jumble, record, first):
    """The levels of a ledger table, by all rows of all lengths."""
    rows = all_rows(line, jumble, record, first)
    found = []
    for many in range(len(record) + 1):
        level = {}
        for row in all_rows(line, jumble, record[:many], first):
            ahead, _ = level.get(state_of(row, jumble, first), (0, 0))
            # Each row to a state goes on in the same ways.
            level[state_of(row, jumble, first)] = (ahead + 1, sum(told[:many] == row for told in rows))
        found.append(tuple((state, *level[state]) for state in sorted(level)))
    return tuple(found)


def asked(ledger):
    """All that a ledger tells."""
    told = [ledger.line, ledger.jumble, ledger.first, ledger.begin, len(ledger), ledger.record, ledger.ways, ledger.settled]
    told += [ledger.possible(place) for place in range(len(ledger))] + [ledger.second(place) for place in range(len(ledger))]
    return told + [ledger.table(), ledger.beginnings()]


class TestAgainstAllRows(unittest.TestCase):

    def check(self, ledger, rand):
        """What a ledger tells of its record; the histories."""
        line, jumble, record, first = ledger.line, ledger.jumble, ledger.record, ledger.first
        rows = all_rows(line, jumble, record, first)
        self.assertEqual((ledger.ways, len(ledger), ledger.begin, ledger.beginnings()), (len(rows), len(record), 0, ((),)))
        possible = [tuple(sorted({row[place] for row in rows})) for place in range(len(record))]
        self.assertEqual([ledger.possible(place) for place in range(len(record))], possible)
        self.assertEqual(ledger.settled, tuple(numbers[0] if len(numbers) == 1 else None for numbers in possible))
        for place, numbers in enumerate(possible):
            self.check_second(ledger, place, numbers, rows)
        for row in rand.sample(rows, min(2, len(rows))):
            for other in changed_rows(rand, row, first):
                self.assertIs(other in ledger, is_strict(other) and other in rows, other)
        table = ledger.table()
        self.assertEqual((table.jumble, table.looks, table.first), (jumble, record, first))
        self.assertEqual(table.levels, all_levels(line, jumble, record, first))
        self.assertIs(look_ledger(table, line), True)
        return rows

    def check_second(self, ledger, place, numbers, rows):
        paper = ledger.second(place)
        if len(numbers) == 1:
            self.assertIsNone(paper)
            return
        self.assertEqual((paper.jumble, paper.looks, paper.first, paper.place), (ledger.jumble, ledger.record, ledger.first, place))
        self.assertTrue(paper.one in rows and paper.other in rows)
        self.assertLess(paper.one[place], paper.other[place])
        self.assertIs(look_second(paper, ledger.line), True)

    def test_look_by_look(self):
        rand = random.Random(501)
        deaths = counted = 0
        for jumble in JUMBLES:
            for line in rand.sample(LINES, 8):
                first = rand.choice((0, 0, 1, 7, MOST))
                record = drawn_record(rand, jumble, line, first, 5)
                ledger = Ledger(line, jumble, first)
                for item in record:
                    record_now = ledger.record + (item,)
                    if all_rows(line, jumble, record_now, first):
                        self.assertIsNone(ledger.take(item))
                        counted += 1
                    else:
                        self.check_death(ledger, item)
                        deaths += 1
                    self.check(ledger, rand)
        self.assertGreater(deaths, 15)
        self.assertGreater(counted, 400)

    def check_death(self, ledger, item):
        """A record that dies: the error with its place, and nothing is changed."""
        before = asked(ledger)
        place = len(ledger)
        self.assertEqual(raised(ledger.take, item), ("NoHistory", place))
        self.assertEqual(raised(ledger.take_all, item, item), ("NoHistory", place))
        record = ledger.record + (item,)
        self.assertEqual(raised(Ledger.of, ledger.line, ledger.jumble, record, ledger.first), ("NoHistory", place))
        longer = record + (item,) * 2 if item is not None else record
        self.assertEqual(raised(Ledger.of, ledger.line, ledger.jumble, longer, ledger.first), ("NoHistory", place))
        self.assertEqual(asked(ledger), before)

    def test_all_records_of_two_faces(self):
        rand = random.Random(502)
        for jumble in (Jumble(1, 1), Jumble(2, 1), Jumble(1, 2, apart=2)):
            for many in range(5):
                for record in itertools.product(*[(("a",), ("b",))] * many):
                    if all_rows(ONE, jumble, record, 0):
                        self.check(Ledger.of(ONE, jumble, record), rand)
                    self.assertEqual(ledger_table(ONE, jumble, record).levels, all_levels(ONE, jumble, record, 0))

    def test_in_parts_and_at_once(self):
        rand = random.Random(503)
        for jumble in JUMBLES:
            for line in rand.sample(LINES, 6):
                first = rand.choice((0, 3, MOST))
                letters = [first + n for n in drawn.drawn_run(rand, jumble, 14)]
                unread = drawn.drawn_unread(rand, jumble, 14)
                record = tuple(None if place in unread else rand.choice(looks(line, n)) for place, n in enumerate(letters))
                one, parts, whole = Ledger(line, jumble, first), Ledger(line, jumble, first), Ledger(line, jumble, first)
                for item in record:
                    self.assertIsNone(one.take(item))
                cut = rand.randrange(15)
                self.assertIsNone(parts.take_all(*record[:cut]))
                self.assertIsNone(parts.take_all())
                self.assertIsNone(parts.take_all(*record[cut:]))
                self.assertIsNone(whole.take_all(*record))
                of = Ledger.of(line, jumble, record, first)
                told = asked(one)
                for other in (parts, whole, of):
                    self.assertEqual(asked(other), told)
                self.assertIn(tuple(letters), of)
                self.assertEqual(of.table(), ledger_table(line, jumble, record, first))
                self.assertIs(look_ledger(of.table(), line), True)

    def test_tables_without_a_history(self):
        rand = random.Random(504)
        dead = 0
        for jumble in JUMBLES:
            for line in rand.sample(LINES, 10):
                first = rand.choice((0, 5, MOST))
                record = drawn_record(rand, jumble, line, first, rand.choice((2, 4, 5)))
                table = ledger_table(line, jumble, record, first)
                self.assertEqual(table.levels, all_levels(line, jumble, record, first))
                self.assertIs(look_ledger(table, line), True)
                dead += not table.levels[-1]
        self.assertGreater(dead, 10)

    def test_states_that_die_out(self):
        table = ledger_table(ONE, Jumble(2, 1), (("a",), ("a",), ("a",)))
        self.assertEqual(table.levels, (
            (((), 1, 0),), (((0,), 1, 0), ((2,), 1, 0)), (((2,), 2, 0),), ()))


class TestRefused(unittest.TestCase):

    def test_looks_that_are_refused(self):
        for value in odd_values() + [("a", "b"), (1,), ["a"], ("a", None), (("a",),)]:
            ledger = Ledger(ONE, Jumble(1, 1, apart=2), 4)
            ledger.take_all(("a",), None)
            before = asked(ledger)
            told = ("BadRecord", 2)
            self.assertEqual(raised(ledger.take, value), told)
            self.assertEqual(raised(ledger.take_all, value, ("b",)), told)
            if value is not None:
                self.assertEqual(raised(ledger.take_all, ("b",), value), ("BadRecord", 3))
            self.assertEqual(asked(ledger), before)
            self.assertIsNone(ledger.take(("b",)))
            self.assertIsNone(ledger.take(None))
            self.assertEqual(len(ledger), 4)
        ledger = Ledger(ONE, Jumble(1, 1))
        self.assertEqual(raised(ledger.take, None), ("BadRecord", 0))
        self.assertEqual(raised(Ledger(ONE, Jumble(0, 0, apart=1)).take_all, None, None, 3), ("BadRecord", 2))
        self.assertEqual(raised(ledger.take_all, ("b",), ("b",), None), ("NoHistory", 1))

    def test_places(self):
        ledger = Ledger.of(ONE, Jumble(2, 1), (("a",), ("b",)))
        for call in (ledger.possible, ledger.second):
            for value in odd_values() + [2, -1]:
                if type(value) is not int or not 0 <= value < 2:
                    self.assertEqual(raised(call, value), ("BadValue", "place"))
            call(place=1)
        self.assertEqual(raised(Ledger(ONE, Jumble()).possible, 0), ("BadValue", "place"))

    def test_the_order(self):
        for value in odd_values():
            calls = [(Ledger, value, value, value), (Ledger.of, value, value, value, value), (ledger_table, value, value, value, value)]
            for call, *args in calls:
                if not isinstance(value, Line):
                    self.assertEqual(raised(call, *args), ("BadValue", "line"))
                args[0] = ONE
                if type(value) is not Jumble:
                    self.assertEqual(raised(call, *args), ("BadValue", "jumble"))
                for jumble in (Jumble(9, 9, 1), Jumble(0, 0, 0, True), Jumble(1, 1, 0, True, 1)):
                    args[1] = jumble
                    self.assertEqual(raised(call, *args), ("BadValue", "jumble"))
                args[1] = Jumble(7, 7)
                if call is not Ledger and not isinstance(value, tuple):
                    self.assertEqual(raised(call, *args), ("BadValue", "record"))
                if call is not Ledger:
                    args[2] = (7,)
                self.assertEqual(raised(call, *args), ("BadValue", "first"))
                args[-1] = 3
                self.assertEqual(raised(call, *args), ("TooMany", "spread"))
        for call in (Ledger.of, ledger_table):
            self.assertEqual(raised(call, ONE, Jumble(9, 9), (None,) * 201, None), ("BadValue", "record"))
            self.assertEqual(raised(call, ONE, Jumble(6, 6), (None, 7), 10 ** 59), ("BadValue", "first"))
            self.assertEqual(raised(call, ONE, Jumble(6, 6), (("x",), None, 7), 0), ("BadRecord", 1))
            self.assertEqual(raised(call, SEEN[1], Jumble(6, 6), (("",),) * 150 + (7,), 3), ("BadRecord", 150))
        for first in (-1, True, 10 ** 59, None):
            self.assertEqual(raised(Ledger, ONE, Jumble(9, 9), first), ("BadValue", "first"))

    def test_names(self):
        ledger = Ledger(first=3, jumble=Jumble(), line=ONE)
        self.assertEqual((ledger.line, ledger.jumble, ledger.first, ledger.begin, Ledger.MOST), (ONE, Jumble(), 3, 0, 200))
        self.assertEqual((ledger.record, ledger.ways, ledger.settled, len(ledger)), ((), 1, (), 0))
        self.assertEqual(ledger.table(), LedgerTable(Jumble(), (), 3, ((((), 1, 1),),)))
        self.assertIn((), ledger)
        ledger.take(look=("b",))
        self.assertEqual(asked(ledger), asked(Ledger.of(first=3, record=(("b",),), jumble=Jumble(), line=ONE)))
        self.assertEqual(ledger.settled, (3,))
        for value in odd_values():
            self.assertIs(value in ledger, False)
        self.assertIn((3,), ledger)
        self.assertEqual(ledger.table(), ledger_table(first=3, record=(("b",),), jumble=Jumble(), line=ONE))
        self.assertNotEqual(ledger, Ledger.of(ONE, Jumble(), (("b",),), 3))


class TestLongRecords(unittest.TestCase):

    def test_199_and_200_items(self):
        ledger = Ledger(SEEN[1], Jumble(1, 1))
        ledger.take_all(*[("",)] * 199)
        before = (ledger.record, ledger.ways, ledger.table())
        self.assertEqual(raised(ledger.take_all, ("",), ("",)), ("TooMany", "looks"))
        self.assertEqual(raised(ledger.take_all, ("",), 7), ("TooMany", "looks"))
        self.assertEqual(raised(ledger.take_all, 7, ("",)), ("BadRecord", 199))
        self.assertEqual(raised(ledger.take, ("x",)), ("NoHistory", 199))
        self.assertEqual((ledger.record, ledger.ways, ledger.table()), before)
        ledger.take(("",))
        self.assertEqual(len(ledger), 200)
        for value in (("",), None, 7, ("x",), ledger):
            self.assertEqual(raised(ledger.take, value), ("TooMany", "looks"))
        self.assertEqual(len(ledger.record), 200)
        self.assertEqual(ledger.possible(100), (99, 100, 101))
        self.assertEqual(ledger.second(100).one[100], 99)
        self.assertIs(look_second(ledger.second(199), SEEN[1]), True)
        self.assertIs(look_ledger(ledger.table(), SEEN[1]), True)
        self.assertEqual(asked(Ledger.of(SEEN[1], Jumble(1, 1), (("",),) * 200)), asked(ledger))

    def test_just_4000_states(self):
        for jumble, text in JUST_4000:
            record = tuple(None if sign == "?" else (sign,) for sign in text)
            ledger = Ledger(ONE, jumble)
            for item in record:
                ledger.take(item)
            self.assertEqual(sum(len(level) for level in ledger.table().levels), 4000)
            before = (ledger.record, ledger.table(), ledger.settled)
            self.assertEqual(raised(ledger.take, None), ("TooMany", "states"))
            self.assertEqual(raised(ledger.take, ("x",)), ("NoHistory", len(record)))
            self.assertEqual(raised(ledger.take_all, None, 7), ("TooMany", "states"))
            self.assertEqual((ledger.record, ledger.table(), ledger.settled), before)
            self.assertIs(look_ledger(ledger.table(), ONE), True)
            for call in (Ledger.of, ledger_table):
                self.assertEqual(raised(call, ONE, jumble, record + (None,)), ("TooMany", "states"))
            self.assertEqual(raised(Ledger.of, ONE, jumble, record + (("x",), ("a",))), ("NoHistory", len(record)))
            table = ledger_table(ONE, jumble, record + (("x",), ("a",)))
            self.assertEqual(table.levels[-2:], ((), ()))
            self.assertEqual(table.levels[0], (((), 1, 0),))
            self.assertIs(look_ledger(table, ONE), True)

    def test_at_once(self):
        """Long ledgers of many states are asked behind each look in short time."""
        begin = time.process_time()
        ledger = Ledger(SEEN[1], Jumble(3, 3))
        for _ in range(150):
            ledger.take(("",))
            self.assertEqual(ledger.settled, (None,) * len(ledger))
        self.assertGreater(sum(len(level) for level in ledger.table().levels), 2500)
        rand = random.Random(505)
        for jumble in (Jumble(6, 6), Jumble(1, 11, apart=12), Jumble(20, 0)):
            line = wide_lines.seen_line(10, 10, 10, 10)
            letters = [MOST + n for n in drawn.drawn_run(rand, jumble, 200)]
            ledger = Ledger.of(line, jumble, tuple(looks(line, n)[0] for n in letters), MOST)
            self.assertEqual(ledger.settled, tuple(letters))
        self.assertLess(time.process_time() - begin, 20)


class TestPapers(unittest.TestCase):

    def check(self, made, names):
        for value in odd_values():
            for at in range(len(names)):
                parts = [0] * len(names)
                parts[at] = value
                paper = made(*parts)
                self.assertEqual([getattr(paper, name) for name in names], parts)
                self.assertEqual(paper, made(**dict(zip(names, parts))))
                parts[at] = (value, 1)
                self.assertNotEqual(paper, made(*parts))
                self.assertNotEqual(paper, tuple(parts))
                self.assertIs(bool(paper), True)

    def test_any_values(self):
        self.check(LedgerTable, ("jumble", "looks", "first", "levels"))
        self.check(Second, ("jumble", "looks", "first", "place", "one", "other"))


if __name__ == "__main__":
    unittest.main()
