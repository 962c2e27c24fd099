"""decide and is_forced; look_twins and look_forced on papers that hold and on changed ones."""

import itertools
import random
import unittest

from jumblepost.forced import Forced, decide, is_forced
from jumblepost.jumbles import Jumble
from jumblepost.look_forced import look_forced, look_twins
from jumblepost.look_sightings import look_alike
from jumblepost.runs import Run
from jumblepost.sightings import Alike, alike
from jumblepost.spans import SpanTable, span, span_table
from jumblepost.twins import Twins, twins
from tests import small_lines, tables, wide_lines, written
from tests.helpers import odd_values, raised
from tests.test_jumbles import small_jumbles
from tests.test_spans import readable_lines
from tests.test_twins import SEEN

MOST = 10 ** 60 - 1
NAMES = ("jumble", "place", "one", "other", "unread", "alikes")


def is_right(paper, line):
    """Whether any value is a Twins that shows what it is to show, by the words of the document."""
    if type(paper) is not Twins or type(paper.jumble) is not Jumble or type(paper.one) is not Run or type(paper.other) is not Run:
        return False
    one, other, unread = paper.one, paper.other, paper.unread
    if one.begin != other.begin or len(one.numbers) != len(other.numbers):
        return False
    if {*one.numbers, *one.lost} != {*other.numbers, *other.lost}:
        return False
    if type(unread) is not tuple or len(unread) > 200 or any(type(place) is not int or not 0 <= place <= MOST for place in unread):
        return False
    if list(unread) != sorted(set(unread)):
        return False
    if written.faults(one, paper.jumble, unread) or written.faults(other, paper.jumble, unread):
        return False
    places = [one.begin + at for at in range(len(one.numbers)) if one.numbers[at] != other.numbers[at]]
    if not places or repr(paper.place) != repr(places[0]):
        return False
    read = [place for place in places if place not in unread]
    if type(paper.alikes) is not tuple or len(paper.alikes) != len(read):
        return False
    for place, told in zip(read, paper.alikes):
        if type(told) is not Alike or not look_alike(told, line):
            return False
        if (told.one.number, told.other.number) != (one.numbers[place - one.begin], other.numbers[place - one.begin]):
            return False
    return True


def changed_runs(run):
    """Runs with one thing changed."""
    begin, numbers, lost = run.begin, run.numbers, run.lost
    parts = [(begin + 1, numbers, lost), (begin, numbers, ()), (begin, numbers + (begin + 40,), lost), (begin, numbers[:-1], lost), (begin, (), ()), (0, numbers, lost)]
    parts += [(begin, numbers, lost + (begin + 50,)), (begin, numbers[1:] + numbers[:1], lost), (begin + 1, numbers[1:], lost)]
    if begin > 0:
        parts += [(begin - 1, (begin - 1,) + numbers, lost), (begin - 1, numbers, lost)]
    for at in range(len(numbers)):
        parts += [(begin, numbers[:at] + (number,) + numbers[at + 1:], lost) for number in (numbers[at] + 1, numbers[at - 1], max(0, numbers[at] - 1))]
        parts.append((begin, numbers[:at] + numbers[at:at + 2][::-1] + numbers[at + 2:], lost))
    for at in range(len(lost)):
        parts += [(begin, numbers, lost[:at] + lost[at + 1:]), (begin, numbers, lost[:at] + (lost[at] + 1,) + lost[at + 1:])]
    for part in parts:
        try:
            yield Run(*part)
        except ValueError:
            continue


def changed_twins(paper, line, other_line):
    """Papers like a Twins, but for one thing."""
    parts = [getattr(paper, name) for name in NAMES]
    jumble, place, one, other, unread, alikes = parts

    def put(**more):
        return Twins(**{**dict(zip(NAMES, parts)), **more})

    for told in [*list(small_jumbles(3, 2))[::4], Jumble(20, 20, 20, True), Jumble(20, 20, apart=1), jumble.need, None]:
        yield put(jumble=told)
    for told in (place + 1, place - 1, str(place), bool(place), float(place), None, (place,), 0):
        yield put(place=told)
    for run in changed_runs(one):
        yield put(one=run)
        yield put(one=run, other=run)
    for run in changed_runs(other):
        yield put(other=run)
    yield from [put(one=other), put(other=one), put(one=other, other=one), put(one=None), put(other=(other.begin, other.numbers))]
    for told in ((), unread + (unread[-1] if unread else 0,), unread[::-1], list(unread), unread[1:], unread + (MOST,), unread + (MOST + 1,), (place,), (True,), None, place):
        yield put(unread=told)
        yield put(unread=told, alikes=alikes[1:])
        yield put(unread=told, alikes=alikes[:-1])
    yield from [put(alikes=alikes[::-1]), put(alikes=alikes[1:]), put(alikes=alikes[:-1]), put(alikes=alikes + alikes[-1:]), put(alikes=list(alikes)), put(alikes=None)]
    for at, told in enumerate(alikes):
        n, m = told.one.number, told.other.number
        papers = [Alike(told.other, told.one), told.one, None, Alike(told.one, told.one), alike(line, n, n), alike(other_line, n, m)]
        papers += [alike(line, n + line.stamp.cycle, m), alike(line, n, m + line.stamp.cycle)]
        for changed in papers:
            yield put(alikes=alikes[:at] + (changed,) + alikes[at + 1:])


class TestDecide(unittest.TestCase):

    def test_below_at_and_above_the_need(self):
        for d, line in SEEN.items():
            if d > 10:
                continue
            table = span_table(line)
            for jumble in small_jumbles(4, 2):
                fine = jumble.need is not None and d >= jumble.need
                paper = decide(line, jumble)
                self.assertIs(is_forced(line, jumble), fine)
                self.assertIs(bool(paper), fine)
                if fine:
                    self.assertEqual(paper, Forced(jumble, table))
                    self.assertIs(look_forced(paper, line), True)
                else:
                    self.assertEqual(paper, twins(line, jumble))
                    self.assertIs(look_twins(paper, line), True)
                    self.assertIs(look_forced(paper, line), False)

    def test_lines_of_all_kinds(self):
        for line in small_lines.small_lines(20, 161) + readable_lines(20, 162):
            least = span(line)
            for jumble in list(small_jumbles(3, 2))[::2] + [Jumble(3, 3), Jumble(4, 3, 2, True), Jumble(2, 2, apart=4)]:
                paper = decide(line, jumble)
                fine = jumble.need is not None and least >= jumble.need
                self.assertIs(type(paper), Forced if fine else Twins)
                self.assertIs(is_forced(line, jumble), fine)
                self.assertIs((look_forced if fine else look_twins)(paper, line), True)
                self.assertEqual(decide(line, jumble), paper)

    def test_great_jumbles(self):
        for jumble in (Jumble(20, 20, 20, True), Jumble(20, 20, 20), Jumble(20, 20, apart=40), Jumble(20, 20)):
            for d, line in SEEN.items():
                paper = decide(line, jumble)
                self.assertIs(type(paper), Forced if d >= jumble.need else Twins)
                self.assertIs((look_forced if d >= jumble.need else look_twins)(paper, line), True)

    def test_errors_in_their_order(self):
        great = wide_lines.above_4000()[0][0]
        for value in odd_values():
            for call in (decide, is_forced):
                if type(value).__name__ != "Line":
                    self.assertEqual(raised(call, value, value), ("BadValue", "line"))
                if type(value) is not Jumble:
                    self.assertEqual(raised(call, great, value), ("BadValue", "jumble"))
        for call in (decide, is_forced):
            self.assertEqual(raised(call, great, Jumble(3, 3)), ("TooMany", "states"))
            self.assertFalse(call(great, Jumble(3, 3, apart=2)))
        self.assertIs(is_forced(jumble=Jumble(), line=SEEN[2]), True)
        self.assertTrue(decide(jumble=Jumble(), line=SEEN[2]))


class TestLookTwins(unittest.TestCase):

    def test_one_part_changed(self):
        right = wrong = 0
        jumbles = [
            Jumble(2, 2), Jumble(1, 3), Jumble(1, 1, 1), Jumble(0, 0, 3), Jumble(1, 1, 0, True), Jumble(0, 0, 3, True), Jumble(1, 2, apart=3),
            Jumble(1, 2, apart=2), Jumble(0, 0, 1, apart=1), Jumble(1, 1, 0, True, 2)]
        for jumble, d in itertools.product(jumbles, (1, 2, 3)):
            if jumble.need is not None and d >= jumble.need:
                continue
            line = SEEN[d]
            paper = twins(line, jumble)
            self.assertIs(look_twins(paper, line), True)
            for changed in changed_twins(paper, line, SEEN[6]):
                fine = is_right(changed, line)
                self.assertIs(look_twins(changed, line), fine, vars(changed))
                right += fine
                wrong += not fine
        self.assertGreater(right, 100)
        self.assertGreater(wrong, 2000)

    def test_twins_of_another_line(self):
        for d, e in itertools.product((1, 2, 3, 4), repeat=2):
            paper = twins(SEEN[d], Jumble(3, 3))
            self.assertIs(look_twins(paper, SEEN[e]), is_right(paper, SEEN[e]))

    def far_twins(self, line, begin, distance, jumble, more=()):
        """Two numbers that are exchanged, with others between; more are exchanged, too."""
        numbers = list(range(begin, begin + distance + 1))
        one, other = numbers[:], numbers[:]
        one[0], one[1:] = numbers[1], [numbers[0], *numbers[2:]]
        for at, far in [(0, distance), *more]:
            other = [begin + {at: far, far: at}.get(number - begin, number - begin) for number in other]
        one = numbers
        places = [at for at in range(len(numbers)) if one[at] != other[at]]
        alikes = tuple([alike(line, one[at], other[at]) for at in places])
        return Twins(jumble, begin + places[0], Run(begin, one), Run(begin, other), (), alikes)

    def test_twins_of_ones_own(self):
        line = SEEN[2]
        for begin in (0, 5, 10 ** 59, MOST - 20):
            for distance in (2, 4, 6, 8):
                for jumble in (Jumble(8, 8), Jumble(4, 4), Jumble(20, 20, 20, True), Jumble(2, 8)):
                    paper = self.far_twins(line, begin, distance, jumble)
                    fine = is_right(paper, line)
                    self.assertEqual(fine, jumble.early >= distance)
                    self.assertIs(look_twins(paper, line), fine)
            two = self.far_twins(line, begin, 8, Jumble(8, 8), [(1, 3), (5, 7)])
            self.assertEqual(len(two.alikes), 6)
            self.assertIs(look_twins(two, line), True)
            self.assertIs(look_twins(Twins(two.jumble, two.place, two.one, two.other, (), two.alikes[:2]), line), False)

    def test_long_heads(self):
        line = SEEN[2]
        paper = self.far_twins(line, 10 ** 59, 18, Jumble(20, 20))
        far = Run(paper.one.begin, paper.one.numbers + tuple(range(10 ** 59 + 19, 10 ** 59 + 200)))
        other = Run(far.begin, paper.other.numbers + far.numbers[19:])
        told = Twins(paper.jumble, paper.place, far, other, (), paper.alikes)
        self.assertEqual(len(far.numbers), 200)
        self.assertIs(look_twins(told, line), True)
        for at in range(0, 200, 17):
            numbers = far.numbers[:at] + far.numbers[at:at + 2][::-1] + far.numbers[at + 2:]
            changed = Twins(paper.jumble, paper.place, far, Run(far.begin, numbers), (), paper.alikes)
            self.assertIs(look_twins(changed, line), is_right(changed, line))

    def test_unread_places(self):
        """Unread places need not be in the head; at most 200 are let."""
        line = SEEN[3]
        jumble = Jumble(1, 2, apart=3)
        paper = twins(line, jumble)
        n = paper.one.begin
        every = [n % 3 + 3 * k for k in range(300)]
        for unread in (tuple(every[:200]), tuple(every[:201]), tuple(every[:2]), (n, n + 3, n + 6, 10 ** 59), (n + 3,), (n, n + 3, MOST)):
            told = Twins(jumble, paper.place, paper.one, paper.other, unread, paper.alikes)
            self.assertIs(look_twins(told, line), is_right(told, line))
        self.assertIs(look_twins(Twins(jumble, n, paper.one, paper.other, (n, n + 3, 10 ** 59), paper.alikes), line), True)

    def test_values_that_are_none(self):
        line = SEEN[3]
        paper = twins(line, Jumble(2, 2))
        parts = [getattr(paper, name) for name in NAMES]
        for value in odd_values():
            papers = [value, Forced(value, value)]
            for at in range(len(parts)):
                papers.append(Twins(*parts[:at], value, *parts[at + 1:]))
            for told in papers:
                self.assertIs(look_twins(told, line), is_right(told, line))
            if type(value).__name__ != "Line":
                self.assertEqual(raised(look_twins, paper, value), ("BadValue", "line"))
                self.assertEqual(raised(look_twins, value, value), ("BadValue", "line"))
        self.assertIs(look_twins(line=line, paper=paper), True)
        self.assertIs(look_twins(tuple(parts), line), False)


class TestLookForced(unittest.TestCase):

    def test_one_part_changed(self):
        rand = random.Random(163)
        for d, line in SEEN.items():
            if d > 10:
                continue
            table = span_table(line)
            for jumble in rand.sample(list(small_jumbles(4, 2)), 40):
                need = jumble.need
                for least in (d, d - 1, d + 1, need, 1):
                    paper = Forced(jumble, SpanTable(least, table.tables))
                    fine = need is not None and least is not None and 1 <= least <= d and least >= need
                    self.assertIs(look_forced(paper, line), fine)
                self.assertIs(look_forced(Forced(jumble, SpanTable(d, table.tables[:-1])), line), False)
                self.assertIs(look_forced(Forced(jumble, table.tables), line), False)
                self.assertIs(look_forced(Forced(table, jumble), line), False)

    def test_other_lines(self):
        """The table must hold on the line; whose it was does not matter."""
        paper = decide(SEEN[6], Jumble(2, 2))
        for d, line in SEEN.items():
            self.assertIs(look_forced(paper, line), tables.is_right(paper.table, line))
        self.assertEqual([d for d in sorted(SEEN) if d <= 10 and look_forced(paper, SEEN[d])], [6, 8])

    def test_values_that_are_none(self):
        line = SEEN[6]
        paper = decide(line, Jumble(2, 2))
        for value in odd_values():
            for told in (value, Forced(value, paper.table), Forced(paper.jumble, value), twins(line, Jumble(9, 9)), SpanTable(6, value)):
                # A Jumble among the values is one whose need may be met.
                fine = type(told) is Forced and type(told.jumble) is Jumble and told.table == paper.table and told.jumble.need <= 6
                self.assertIs(look_forced(told, line), fine)
            if type(value).__name__ != "Line":
                self.assertEqual(raised(look_forced, paper, value), ("BadValue", "line"))
                self.assertEqual(raised(look_forced, value, value), ("BadValue", "line"))
        self.assertIs(look_forced(line=line, paper=paper), True)

    def test_papers(self):
        for value in odd_values():
            paper = Forced(value, 1)
            self.assertEqual((paper.jumble, paper.table), (value, 1))
            self.assertEqual(paper, Forced(table=1, jumble=value))
            self.assertNotEqual(paper, Forced(value, 2))
            self.assertNotEqual(paper, Forced((value, 0), 1))
            self.assertNotEqual(paper, value)
            self.assertTrue(paper)


if __name__ == "__main__":
    unittest.main()
