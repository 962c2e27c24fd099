"""Heads: against a search for runs; closings by the words of the document; long heads; odd values."""

import itertools
import random
import time
import unittest

from jumblepost.heads import begun_run, head_end
from jumblepost.jumbles import Jumble
from jumblepost.runs import Run, fits
from tests import beginnings, written
from tests.helpers import odd_values, raised

MOST = 10 ** 60 - 1
PLAIN = [Jumble(), Jumble(1, 1), Jumble(2, 1), Jumble(1, 2), Jumble(2, 2), Jumble(0, 3), Jumble(3, 0), Jumble(1, 3)]
LOSSY = [Jumble(0, 0, 1), Jumble(0, 2, 2), Jumble(1, 1, 1), Jumble(1, 2, 1), Jumble(2, 1, 2), Jumble(1, 1, 3), Jumble(2, 2, 1)]
AGAIN = [Jumble(0, 0, 0, True), Jumble(1, 1, 0, True), Jumble(2, 1, 1, True), Jumble(0, 0, 2, True), Jumble(1, 2, 2, True), Jumble(2, 2, 0, True)]
UNREAD = [Jumble(0, 0, apart=1), Jumble(1, 1, apart=1), Jumble(1, 1, apart=2), Jumble(2, 1, apart=2), Jumble(1, 2, apart=3), Jumble(0, 4, apart=1), Jumble(2, 2, apart=1)]


def likely_head(jumble, rand, many, unread=0.0):
    """A head that may begin a run: a sorted row, shaken."""
    early, late = beginnings.bounds(jumble)
    row = [number for number in range(4 * many + 40) if rand.random() >= (0.3 if jumble.lost else 0)]
    if jumble.again:
        row = sorted(row + [number for number in row if rand.random() < 0.2])
    row = sorted(row, key=lambda number: row.index(number) + rand.uniform(-late, early + 0.5) if early else row.index(number))
    return tuple([None if rand.random() < unread else number for number in row[:many]])


class TestAgainstASearch(unittest.TestCase):

    def check(self, jumble, head):
        """One head; whether a run begins so."""
        told = begun_run(jumble, head)
        fine = beginnings.begins(jumble, list(head))
        self.assertIs(told is not None, fine, (str(jumble), head))
        if fine:
            self.assertIs(type(told), Run)
            numbers, lost = beginnings.closing(jumble, head)
            self.assertEqual(told, Run(0, numbers, lost))
            self.assertEqual([number for number, item in zip(told.numbers, head) if item is not None], [item for item in head if item is not None])
            unread = [place for place, item in enumerate(head) if item is None]
            self.assertEqual(written.faults(told, jumble, unread), [])
        ends = [place for place in range(len(head)) if begun_run(jumble, head[:place + 1]) is None]
        self.assertEqual(head_end(jumble, head), ends[0] if ends else None)
        self.assertEqual(ends, list(range(ends[0], len(head))) if ends else [])
        return fine

    def count(self, told):
        self.assertGreater(sum(told), 40)
        self.assertGreater(len(told) - sum(told), 40)

    def test_all_short_heads(self):
        told = []
        for jumble in PLAIN + LOSSY + AGAIN:
            for head in itertools.chain(*[itertools.product(range(4), repeat=many) for many in range(4)]):
                told.append(self.check(jumble, head))
        self.count(told)

    def test_short_heads_with_unread_letters(self):
        told = []
        for jumble in UNREAD + PLAIN[:4]:
            for head in itertools.chain(*[itertools.product((None, 0, 1, 2, 3), repeat=many) for many in range(4)]):
                told.append(self.check(jumble, head))
        self.count(told)

    def test_heads_of_five_items(self):
        rand = random.Random(171)
        told = []
        for jumble in PLAIN + LOSSY + AGAIN:
            for _ in range(25):
                head = likely_head(jumble, rand, rand.randint(3, 5))
                if max(head) < 9:
                    told.append(self.check(jumble, head))
        self.count(told)

    def test_five_items_with_unread_letters(self):
        rand = random.Random(172)
        told = []
        for jumble in UNREAD:
            for _ in range(60):
                head = likely_head(jumble, rand, rand.randint(3, 5), 0.25)
                if head.count(None) < 3:
                    told.append(self.check(jumble, head))
        self.count(told)


class TestLongHeads(unittest.TestCase):

    def test_forty_items(self):
        rand = random.Random(173)
        right = wrong = 0
        for jumble in PLAIN + LOSSY + AGAIN + UNREAD + [Jumble(20, 20, 20, True), Jumble(5, 9), Jumble(9, 5, 3), Jumble(7, 7, apart=14), Jumble(4, 4, 4, True)]:
            for _ in range(12):
                head = likely_head(jumble, rand, 40, 0.05 if jumble.apart else 0)
                told = begun_run(jumble, head)
                closing = beginnings.closing(jumble, head)
                unread = [place for place, item in enumerate(head) if item is None]
                run = None if closing is None else Run(0, *closing)
                fine = run is not None and fits(run, jumble, unread)
                self.assertEqual(told, run if fine else None)
                end = head_end(jumble, head)
                self.assertIs(end is None, fine)
                if end is not None:
                    self.assertIsNone(begun_run(jumble, head[:end + 1]))
                    self.assertIsNotNone(begun_run(jumble, head[:end]))
                right += fine
                wrong += not fine
        self.assertGreater(min(right, wrong), 40)

    def test_the_farthest_numbers(self):
        """With a spread of 0 and 20 lost, one number of 21 may come: no head has a greater one."""
        jumble = Jumble(0, 0, 20)
        head = tuple(21 * k + 20 for k in range(40))
        self.assertEqual(begun_run(jumble, head), Run(0, head, [number for number in range(839) if number not in head]))
        self.assertIsNone(head_end(jumble, head))
        self.assertEqual(head_end(jumble, head[:-1] + (840,)), 39)
        for number in (998, 999, 1000, 1001, 10 ** 59, MOST):
            self.assertEqual(head_end(jumble, head[:5] + (number,)), 5)
            self.assertIsNone(begun_run(Jumble(20, 20, 20, True), (number,)))
            self.assertEqual(head_end(Jumble(20, 20, apart=40), (None, number)), 1)

    def test_at_once(self):
        begin = time.process_time()
        for jumble in (Jumble(20, 20, 20, True), Jumble(20, 20, 20), Jumble(0, 0, 20), Jumble(20, 20)):
            for head in (tuple(range(40)), tuple(range(20, 60)), tuple(range(39, -1, -1)), tuple(range(959, 999)), (999,) * 40):
                begun_run(jumble, head)
                head_end(jumble, head)
        self.assertLess(time.process_time() - begin, 10)

    def test_by_hand(self):
        lossy, unread = Jumble(1, 1, lost=1), Jumble(1, 1, apart=2)
        self.assertEqual([head_end(lossy, (1, 3, 2)), head_end(lossy, (1, 3, 4))], [None, 2])
        self.assertEqual(begun_run(lossy, (1, 0, 4, 3, 7)), Run(0, (1, 0, 4, 3, 7), (2, 6)))
        self.assertEqual(begun_run(unread, (None, 2, None)), Run(0, (0, 2, 1)))
        self.assertEqual(head_end(unread, (None, None)), 1)
        self.assertEqual(begun_run(Jumble(), ()), Run(0))
        self.assertIsNone(head_end(Jumble(), ()))
        self.assertEqual(begun_run(Jumble(1, 1), (1,)), Run(0, (1,)))
        self.assertEqual(begun_run(head=(0, 0), jumble=Jumble(again=True)), Run(0, (0, 0)))
        self.assertEqual(head_end(head=(0, 0), jumble=Jumble()), 1)
        self.assertEqual(begun_run(Jumble(2, 2), (None,)), None)
        self.assertEqual(head_end(Jumble(2, 2), (0, None)), 1)


class TestRefused(unittest.TestCase):

    def test_any_values(self):
        for value in odd_values():
            for call in (begun_run, head_end):
                if type(value) is not Jumble:
                    self.assertEqual(raised(call, value, value), ("BadValue", "jumble"))
                    self.assertEqual(raised(call, value, (0,)), ("BadValue", "jumble"))
                if value not in ((), (None,)):
                    self.assertEqual(raised(call, Jumble(1, 1), value), ("BadValue", "head"))
                if value is not None:
                    for head in ((0, value), (value, 1), (0, 1, value, 3)):
                        self.assertEqual(raised(call, Jumble(1, 1, apart=2), head), ("BadValue", "head"))

    def test_nones(self):
        for jumble in (Jumble(1, 1, 1), Jumble(1, 1, 0, True), Jumble(0, 0, 1, False, 1), Jumble(0, 0, 1, True, 1)):
            for call in (begun_run, head_end):
                self.assertEqual(raised(call, jumble, (0, None)), ("BadValue", "head"))
                self.assertEqual(raised(call, jumble, (5, 9, None, 1)), ("BadValue", "head"))
        for jumble in (Jumble(), Jumble(1, 1)):
            self.assertIsNone(begun_run(jumble, (None,)))
            self.assertEqual(head_end(jumble, (None,)), 0)

    def test_many_items(self):
        for call in (begun_run, head_end):
            self.assertEqual(raised(call, Jumble(), tuple(range(41))), ("BadValue", "head"))
            self.assertEqual(raised(call, Jumble(), list(range(3))), ("BadValue", "head"))
            self.assertIsNone(raised(call, Jumble(), tuple(range(40))))
            self.assertEqual(raised(call, Jumble(), (0, MOST + 1)), ("BadValue", "head"))
            self.assertIsNone(raised(call, Jumble(), (0, MOST)))


if __name__ == "__main__":
    unittest.main()
