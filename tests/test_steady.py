"""Steady runs: written out letter by letter by the words of [25c]; each refusal."""

import itertools
import unittest

from jumblepost.steady import SteadyRun
from tests.helpers import odd_values, raised

FAR = 10 ** 60 - 1


def front(early, late, place):
    return list(range(max(0, place - late), place + early))


def lets_ahead(early, late, place, ahead):
    """Whether these residues can come ahead of a place."""
    s = early + late
    return len(ahead) == late and all(n % s in ahead for n in range(place - late, 0) if n < place)


def written(early, late, place, ahead, final, many):
    """The letters of so many places, from the first number of the front or from 0 on."""
    s = early + late
    low = max(0, place - late)
    told = [n for n in front(early, late, place) if n % s in ahead]
    if final is not None:
        told = [n for n in told if n != final] + [final]
    row = list(told)
    for i in range(place, low + many):
        row.append(i + early if (i - late) % s in ahead else i - late)
    return row[:many]


def lies_near(row, low, early, late):
    """Whether each number of a row, that begins with place low, is near its place."""
    return all(n - early <= low + at <= n + late for at, n in enumerate(row))


def all_heads(early, late, place):
    """All pairs (ahead, final) that can be told of a place; final is None or a number that comes ahead of it."""
    s = early + late
    for ahead in itertools.combinations(range(s), late):
        if lets_ahead(early, late, place, ahead):
            for final in [None] + [n for n in front(early, late, place) if n % s in ahead]:
                yield ahead, final


def is_let(early, late, place, ahead, final):
    """Whether a final number leaves the others near their places."""
    if final is None:
        return True
    told = [n for n in front(early, late, place) if n % (early + late) in ahead]
    return final in told and place + early - 1 not in [n for n in told if n != final]


PLACES = (0, 1, 2, 3, 4, 5, 6, 7, 12, 13, 10 ** 59 + 2, FAR - 1, FAR)


class TestRuns(unittest.TestCase):

    def test_letters(self):
        counts = [0, 0]
        for early, late, place in itertools.product((1, 2, 3), (1, 2, 3), PLACES):
            for ahead, final in all_heads(early, late, place):
                fine = is_let(early, late, place, ahead, final)
                counts[fine] += 1
                if fine:
                    self.check(SteadyRun(early, late, place, ahead, final))
                else:
                    self.assertEqual(raised(SteadyRun, early, late, place, ahead, final), ("BadValue", "final"))
                    row = written(early, late, place, ahead, final, 20)
                    self.assertFalse(lies_near(row, max(0, place - late), early, late))
        self.assertGreater(min(counts), 400)

    def check(self, run):
        low = max(0, run.place - run.late)
        row = written(run.early, run.late, run.place, run.ahead, run.final, 26)
        self.assertTrue(lies_near(row, low, run.early, run.late))
        self.assertEqual(len(set(row)), 26)
        # All numbers that must have come by then are there.
        self.assertTrue(set(range(low, low + 26 - run.late)) <= set(row))
        for at, number in enumerate(row):
            if low + at <= FAR:
                self.assertEqual(run.letter(low + at), number)
            if number <= FAR:
                self.assertEqual(run.where(number), (low + at,))
        many = min(26, FAR - low + 1)
        self.assertEqual(run.stretch(low, many), tuple(row[:many]))
        for place in {low - 1, low - 5, low // 2, 0}:
            if 0 <= place < low:
                self.assertEqual((run.letter(place), run.where(place)), (place, (place,)))
        begin = max(0, low - 3)
        self.assertEqual(run.stretch(begin, low - begin), tuple(range(begin, low)))

    def test_far_places(self):
        run = SteadyRun(3, 2, 7, (1, 4))
        for place in (10 ** 59, FAR):
            row = written(3, 2, place, (1, 4), None, 12)[2:]
            self.assertEqual(run.stretch(place, 10), tuple(row))
            self.assertEqual([run.letter(place), run.stretch(place, 0)], [row[0], ()])
        self.assertEqual(len(run.stretch(0, 1000)), 1000)
        self.assertEqual(run.stretch(3, 900)[400:], run.stretch(403, 500))
        for number in (FAR, FAR - 4, 10 ** 59):
            place, = run.where(number)
            self.assertEqual(number, place + 3 if number % 5 in (1, 4) else place - 2)

    def test_the_examples(self):
        run = SteadyRun(2, 2, 6, (0, 1))
        self.assertEqual(run.stretch(0, 12), (0, 1, 2, 3, 4, 5, 8, 9, 6, 7, 12, 13))
        self.assertEqual(run.where(12), (10,))
        self.assertEqual(SteadyRun(2, 2, 6, (0, 2), 4).stretch(4, 4), (6, 4, 8, 5))
        self.assertEqual(SteadyRun(2, 2, 0, (2, 3)).stretch(0, 8), (2, 3, 0, 1, 6, 7, 4, 5))

    def test_greatest_spreads(self):
        for early, late in ((11, 1), (1, 11), (6, 6), (5, 7)):
            for place in (0, 1, late, 30):
                s = early + late
                must = sorted({n % s for n in range(place - late, 0)}) if place < late else []
                ahead = tuple(sorted(must + [r for r in range(s) if r not in must][:late - len(must)]))
                self.check(SteadyRun(early, late, place, ahead))


class TestRefused(unittest.TestCase):

    def test_the_order(self):
        for value in odd_values():
            if type(value) is not int or not 1 <= value <= 20:
                self.assertEqual(raised(SteadyRun, value, value, value, value, value), ("BadValue", "early"))
                self.assertEqual(raised(SteadyRun, 20, value, value, value, value), ("BadValue", "late"))
            if type(value) is not int or not 0 <= value <= FAR:
                self.assertEqual(raised(SteadyRun, 20, 20, value, value, value), ("BadValue", "place"))
            self.assertEqual(raised(SteadyRun, 20, 20, 3, value, value), ("TooMany", "spread"))
            self.assertEqual(raised(SteadyRun, 7, 6, 3, value, value), ("TooMany", "spread"))
            if value != (True, False):
                self.assertEqual(raised(SteadyRun, 2, 1, 3, value, value), ("BadValue", "ahead"))
            if value is not None:
                self.assertEqual(raised(SteadyRun, 2, 2, 6, (0, 1), value), ("BadValue", "final"))
        for early, late in ((0, 1), (21, 1), (1, 0), (1, 21), (-1, 1), (True, 1), (1, True)):
            told = "early" if not (type(early) is int and 1 <= early <= 20) else "late"
            self.assertEqual(raised(SteadyRun, early, late, -1, (), 5), ("BadValue", told))
        self.assertEqual(raised(SteadyRun, 2, 2, FAR + 1, (0, 1)), ("BadValue", "place"))

    def test_ahead(self):
        for ahead in ((1, 0), (0, 0), (0,), (0, 1, 2), (0, 4), (-1, 0), [0, 1], (False, 1), (0, True), ("0", "1"), (0.0, 1), (0, (1,)), ()):
            self.assertEqual(raised(SteadyRun, 2, 2, 6, ahead, 99), ("BadValue", "ahead"), ahead)
        for early, late, place in itertools.product((1, 2, 3), (1, 2, 3), range(7)):
            for ahead in itertools.product(range(-1, early + late + 1), repeat=late):
                fine = list(ahead) == sorted(set(ahead)) and 0 <= ahead[0] and ahead[-1] < early + late and lets_ahead(early, late, place, ahead)
                told = raised(SteadyRun, early, late, place, ahead)
                self.assertEqual(told, None if fine else ("BadValue", "ahead"))

    def test_final(self):
        for early, late, place in itertools.product((1, 2, 3), (1, 2), range(7)):
            for ahead, _ in all_heads(early, late, place):
                for final in (*range(-2, place + early + 2), True, "1", (1,)):
                    fine = type(final) is int and is_let(early, late, place, ahead, final)
                    self.assertEqual(raised(SteadyRun, early, late, place, ahead, final), None if fine else ("BadValue", "final"))

    def test_methods(self):
        run = SteadyRun(2, 2, 6, (0, 1))
        for value in odd_values() + [-1, FAR + 1]:
            if type(value) is not int or not 0 <= value <= FAR:
                self.assertEqual(raised(run.letter, value), ("BadValue", "place"))
                self.assertEqual(raised(run.where, value), ("BadValue", "number"))
                self.assertEqual(raised(run.stretch, value, value), ("BadValue", "place"))
            if type(value) is not int or not 0 <= value <= 1000:
                self.assertEqual(raised(run.stretch, 3, value), ("BadValue", "many"))
        self.assertEqual(raised(run.stretch, 0, 1001), ("BadValue", "many"))
        self.assertEqual(run.stretch(many=2, place=6), (8, 9))
        self.assertEqual((run.letter(place=6), run.where(number=8)), (8, (6,)))

    def test_parts_and_equality(self):
        run = SteadyRun(final=4, ahead=(0, 2), place=6, late=2, early=2)
        self.assertEqual((run.early, run.late, run.place, run.ahead, run.final), (2, 2, 6, (0, 2), 4))
        self.assertEqual(run, SteadyRun(2, 2, 6, (0, 2), 4))
        for other in (SteadyRun(2, 2, 6, (0, 2)), SteadyRun(2, 2, 6, (0, 2), 6), SteadyRun(2, 2, 10, (0, 2)), SteadyRun(2, 2, 6, (0, 1)), SteadyRun(3, 2, 6, (0, 2))):
            self.assertNotEqual(run, other)
        # Of these each one differs from the next one in one part alone.
        row = [SteadyRun(2, 2, 6, (0, 2)), SteadyRun(3, 2, 6, (0, 2)), SteadyRun(3, 2, 7, (0, 2)), SteadyRun(3, 2, 7, (1, 2)), SteadyRun(3, 2, 7, (1, 2), 6)]
        for one, other in zip(row, row[1:]):
            self.assertNotEqual(one, other)
        self.assertIsNone(SteadyRun(2, 2, 6, (0, 2)).final)
        for value in odd_values():
            self.assertNotEqual(run, value)


if __name__ == "__main__":
    unittest.main()
