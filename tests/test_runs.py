"""Runs: against rows of letters written out; faults in their order; texts; refused values."""

import random
import time
import unittest

from jumblepost.jumbles import Jumble
from jumblepost.runs import Run, faults, fits
from tests import written
from tests.helpers import changed_texts, is_integer_word, odd_values, raised, wrong_word

MOST = 10 ** 60 - 1
LONG = Run(1000, tuple(range(1199, 999, -1)), tuple(range(1200, 2000)))


def small_jumble(rand):
    early, late = rand.randint(0, 3), rand.randint(0, 3)
    spread = written.spread_of(early, late)
    return Jumble(early, late, rand.choice((0, 0, 1, 2, 3)), rand.random() < 0.5, rand.randint(0, max(1, spread)))


def small_unread(rand, run):
    near = max(0, min(run.begin, MOST - 12) - 3)
    return rand.choice((tuple, list))(sorted(rand.sample(range(near, near + 15), rand.choice((0, 0, 1, 2, 3)))))


class TestLetters(unittest.TestCase):

    def test_against_rows_of_letters(self):
        rand = random.Random(141)
        for run in written.random_runs(250, 141, most=8) + [LONG]:
            told = written.Written(run)
            head_end = run.begin + len(run.numbers)
            places = {*range(max(0, run.begin - 4), min(head_end + 8, MOST)), *[rand.randrange(told.low, told.end - 1100) for _ in range(8)]}
            ranks = written.ranks_of(told)
            for place in sorted(places):
                if place <= MOST:
                    self.assertEqual(run.letter(place), told.letter(place))
                    self.assertEqual(run.rank(place), ranks[place - told.low])
            numbers = {number for number in (*run.numbers, *run.lost, run.begin, run.begin - 1, run.begin + 999, run.begin + 1000)}
            for number in sorted(numbers | {rand.randrange(told.low, told.low + 1200) for _ in range(5)}):
                if 0 <= number <= MOST:
                    self.assertEqual(run.where(number), told.where(number))

    def test_stretch(self):
        rand = random.Random(142)
        for run in written.random_runs(150, 142, most=8) + [LONG]:
            told = written.Written(run)
            for place in (max(0, run.begin - 3), run.begin, run.begin + len(run.numbers) // 2, rand.randrange(told.low, told.low + 1200)):
                many = rand.choice((0, 1, 5, 40))
                if place <= MOST:
                    row = run.stretch(place, many)
                    self.assertEqual(row, tuple(told.letters[place - told.low:place - told.low + many]))
                    self.assertIs(type(row), tuple)

    def test_far_behind_the_head(self):
        for run in written.random_runs(150, 143):
            told = written.Written(run)
            ahead = told.letters[-1] - (told.end - 1)
            for place in (run.begin + 2500, 10 ** 59 + 7, MOST):
                if place > run.begin + 2000 and place <= MOST:
                    self.assertEqual(run.letter(place), place + ahead)
                    self.assertEqual(run.rank(place), place)
                    self.assertEqual(run.stretch(place, 3), (place + ahead, place + ahead + 1, place + ahead + 2))
                    if place + ahead <= MOST:
                        self.assertEqual(run.where(place + ahead), (place,))

    def test_far_ahead_of_the_head(self):
        run = Run(10 ** 59, (10 ** 59 + 1, 10 ** 59 - 999), (10 ** 59 + 999,))
        for place in (0, 5, 10 ** 30, 10 ** 59 - 1000):
            self.assertEqual((run.letter(place), run.rank(place), run.where(place)), (place, place, (place,)))
        self.assertEqual(run.where(10 ** 59 - 999), (10 ** 59 - 999, 10 ** 59 + 1))
        self.assertEqual(run.rank(10 ** 59 - 998), 10 ** 59 - 997)

    def test_long_stretches(self):
        begin = time.process_time()
        row = LONG.stretch(1000, 1000)
        self.assertEqual(row, tuple(range(1199, 999, -1)) + tuple(range(2000, 2800)))
        self.assertEqual(len(Run(MOST, (), range_list(MOST, 1000)).stretch(MOST, 1000)), 1000)
        self.assertEqual(Run(0).stretch(0, 1000), tuple(range(1000)))
        self.assertLess(time.process_time() - begin, 5)


def is_short(value):
    """Whether any value is a list or tuple of at most 1,000 items."""
    return isinstance(value, (tuple, list)) and len(value) <= 1000


def range_list(begin, many):
    return list(range(begin, begin + many))


class TestMade(unittest.TestCase):

    def test_attributes(self):
        numbers, lost = [4, 3, 3], [5]
        run = Run(2, numbers, lost)
        numbers.append(7)
        lost.clear()
        self.assertEqual((run.begin, run.numbers, run.lost), (2, (4, 3, 3), (5,)))
        self.assertEqual((Run(7).numbers, Run(7).lost), ((), ()))
        self.assertEqual(Run(lost=(5,), numbers=(4, 3, 3), begin=2), run)

    def test_equal(self):
        runs = [Run(2), Run(3), Run(2, (2,)), Run(2, (2, 3)), Run(2, (), (4,)), Run(2, (2,), (4,))]
        for at, one in enumerate(runs):
            for k, other in enumerate(runs):
                self.assertIs(one == other, at == k)
        self.assertEqual(Run(2, [2], [4]), Run(2, (2,), (4,)))
        for value in odd_values():
            if not isinstance(value, Run):
                self.assertFalse(Run(0) == value)

    def test_bounds(self):
        self.assertEqual(Run(MOST, (MOST + 999, MOST - 999), (MOST + 998,)).numbers, (MOST + 999, MOST - 999))
        self.assertEqual(raised(Run, MOST + 1), ("BadValue", "begin"))
        for number in (-1, 1000, True, None):
            self.assertEqual(raised(Run, 0, (5, 6, number)), ("BadRun", "numbers", 2))
        self.assertEqual(raised(Run, 1500, (501, 500)), ("BadRun", "numbers", 1))
        self.assertEqual(raised(Run, 1500, (2499, 2500)), ("BadRun", "numbers", 1))
        self.assertEqual(Run(1500, (501, 2499)).numbers, (501, 2499))
        self.assertEqual(raised(Run, 3, (), (2,)), ("BadRun", "lost", 0))
        self.assertEqual(raised(Run, 3, (), (1002, 1003)), ("BadRun", "lost", 1))
        self.assertEqual(raised(Run, 2, (2,), (1,)), ("BadRun", "lost", 0))
        self.assertEqual(raised(Run, 2, (4,), (3, 4)), ("BadRun", "lost", 1))
        self.assertEqual(raised(Run, 2, (4,), (3, 3)), ("BadRun", "lost", 1))
        self.assertEqual(raised(Run, 2, (4,), (5, 3)), ("BadRun", "lost", 1))
        self.assertEqual(raised(Run, 2, (True,), (5, 3)), ("BadRun", "numbers", 0))
        self.assertEqual(len(Run(0, [1] * 200, range_list(2, 998)).numbers), 200)
        self.assertEqual(len(Run(0, (), range_list(0, 1000)).lost), 1000)
        self.assertEqual(raised(Run, 0, [1] * 201), ("BadValue", "numbers"))
        self.assertEqual(raised(Run, 0, [None] * 201, 3), ("BadValue", "numbers"))
        self.assertEqual(raised(Run, 0, (), range_list(0, 1001)), ("BadValue", "lost"))

    def test_any_values(self):
        for value in odd_values():
            if type(value) is not int or not 0 <= value <= MOST:
                self.assertEqual(raised(Run, value, value, value), ("BadValue", "begin"))
            if not isinstance(value, (tuple, list)) or len(value) > 200:
                self.assertEqual(raised(Run, 0, value, value), ("BadValue", "numbers"))
                self.assertEqual(raised(Run, 0, (None,), value), ("BadValue", "lost") if not is_short(value) else ("BadRun", "numbers", 0))
            self.assertEqual(raised(Run, 5, (5, value)), ("BadRun", "numbers", 1))
            self.assertEqual(raised(Run, 5, (), (5, value)), ("BadRun", "lost", 1))

    def test_refused_arguments(self):
        run = Run(2, (4, 3, 3), (5,))
        for value in odd_values():
            if type(value) is not int or not 0 <= value <= MOST:
                self.assertEqual(raised(run.letter, value), ("BadValue", "place"))
                self.assertEqual(raised(run.rank, value), ("BadValue", "place"))
                self.assertEqual(raised(run.where, value), ("BadValue", "number"))
                self.assertEqual(raised(run.stretch, value, value), ("BadValue", "place"))
            self.assertEqual(raised(run.stretch, 3, value), ("BadValue", "many"))
        self.assertEqual(raised(run.stretch, 3, 1001), ("BadValue", "many"))
        self.assertEqual(raised(run.stretch, MOST + 1, 1001), ("BadValue", "place"))
        self.assertEqual(len(run.stretch(many=1000, place=MOST)), 1000)
        self.assertEqual((run.letter(place=2), run.rank(place=2), run.where(number=3)), (4, 5, (3, 4)))


class TestFaults(unittest.TestCase):

    def test_against_rows_of_letters(self):
        rand = random.Random(144)
        kinds = {}
        for run in written.random_runs(700, 144):
            jumble, unread = small_jumble(rand), small_unread(rand, run)
            told = written.faults(run, jumble, unread)
            self.assertEqual(list(faults(run, jumble, unread)), told, (str(run), str(jumble), unread))
            self.assertIs(fits(run, jumble, unread), told == [])
            for kind, _ in told:
                kinds[kind] = kinds.get(kind, 0) + 1
            kinds[None] = kinds.get(None, 0) + (told == [])
        self.assertEqual(sorted(kinds, key=str), [None, "again", "early", "late", "lost", "unread"])
        self.assertGreater(min(kinds.values()), 50)

    def test_long_runs(self):
        begin = time.process_time()
        far = Run(1000, tuple(range(1999, 1799, -1)), tuple(range(1000, 1700, 7)))
        for run in (LONG, far, Run(1500, [501] * 200), Run(1500, [2499, 501] * 100, range_list(1500, 999))):
            for jumble in (Jumble(20, 20, 20, True), Jumble(0, 9), Jumble(1, 1, 1)):
                self.assertEqual(list(faults(run, jumble)), written.faults(run, jumble, ()))
        self.assertLess(time.process_time() - begin, 40)

    def test_the_example(self):
        run = Run(2, (4, 3, 3), (5,))
        self.assertEqual(run.stretch(0, 8), (0, 1, 4, 3, 3, 2, 6, 7))
        self.assertEqual(
            [run.rank(2), run.rank(4), run.rank(5), run.where(3), list(faults(run, Jumble(2, 2))), fits(run, Jumble(3, 3, 1, True))],
            [5, 4, 2, (3, 4), [("again", 4), ("lost", 5), ("early", 2), ("late", 5)], True])
        self.assertEqual(str(run), "begin 2 numbers 4 3 3 lost 5")
        self.assertEqual(raised(Run, 2, (2,), (1,)), ("BadRun", "lost", 0))

    def test_the_order(self):
        run = Run(2, (5, 0, 5, 2), (3, 4))
        told = list(faults(run, Jumble(1, 1, 0, False, 2), (1, 2, 9)))
        self.assertEqual(told, [
            ("again", 3), ("again", 4), ("lost", 3), ("lost", 4), ("early", 2), ("late", 3), ("late", 5), ("unread", 2)])

    def test_again_ahead_of_the_head(self):
        """A number from ahead of the head that comes again moves the letters below begin."""
        run = Run(5, (2, 0))
        self.assertEqual(run.stretch(0, 8), (0, 1, 2, 3, 4, 2, 0, 5))
        self.assertEqual(list(faults(run, Jumble(0, 0, 0, True))), written.faults(run, Jumble(0, 0, 0, True), ()))
        self.assertEqual(list(faults(run, Jumble(1, 5, 0, True))), [("early", 3), ("early", 4)])
        self.assertEqual(list(faults(run, Jumble(2, 4, 0, True))), [("late", 6)])

    def test_endless_losses_and_a_spread_of_0(self):
        run = Run(0, (), [number for number in range(1000) if number % 3 < 2])
        self.assertTrue(fits(run, Jumble(0, 0, 2)))
        self.assertTrue(fits(run, Jumble(9, 0, 2)))
        self.assertFalse(fits(run, Jumble(1, 1, 2)))
        self.assertEqual(list(faults(run, Jumble(0, 9, 1)))[:2], [("lost", 1), ("lost", 4)])
        for jumble in (Jumble(9, 0), Jumble(0, 9)):
            self.assertEqual(list(faults(Run(0, (1, 0)), jumble)), [("early", 0), ("late", 1)])

    def test_unread_places(self):
        jumble = Jumble(2, 2, apart=3)
        self.assertTrue(fits(Run(0), jumble, (0, 3, 6, MOST)))
        self.assertEqual(list(faults(Run(0), jumble, [0, 2, 4, 7, 9])), [("unread", 2), ("unread", 4), ("unread", 9)])
        self.assertEqual(list(faults(Run(0), Jumble(2, 2), (4, 90))), [("unread", 4), ("unread", 90)])
        every = tuple(range(0, 600, 3))
        self.assertEqual(len(every), 200)
        self.assertIs(fits(Run(0), jumble, every), True)
        self.assertEqual(raised(fits, Run(0), jumble, every + (600,)), ("BadValue", "unread"))
        self.assertEqual(raised(next, faults(Run(0), jumble, every + (600,))), ("BadValue", "unread"))
        for wrong in ((3, 3), (4, 3), (-1,), (MOST + 1,), (True,), (0, None), {0: 1}, "0", None, 0):
            self.assertEqual(raised(fits, Run(0), jumble, wrong), ("BadValue", "unread"))

    def test_any_values(self):
        for value in odd_values():
            if not isinstance(value, Run):
                self.assertEqual(raised(fits, value, value, value), ("BadValue", "run"))
                self.assertEqual(raised(next, faults(value, value, value)), ("BadValue", "run"))
            if not isinstance(value, Jumble):
                self.assertEqual(raised(fits, Run(0), value, value), ("BadValue", "jumble"))
                self.assertEqual(raised(next, faults(Run(0), value, value)), ("BadValue", "jumble"))
            if value not in ((), [], [0]):
                self.assertEqual(raised(fits, Run(0), Jumble(), value), ("BadValue", "unread"))
        self.assertIs(fits(jumble=Jumble(0, 0, 0, False, 1), unread=[0], run=Run(0)), True)
        self.assertEqual(list(faults(jumble=Jumble(), unread=(1,), run=Run(0))), [("unread", 1)])


def can_follow(ahead, word):
    """Whether a word can stand behind others that can, in the text of a run."""
    if len(ahead) < 2:
        return word == "begin" if not ahead else is_integer_word(word, 0, MOST)
    begin = int(ahead[1])
    if "lost" in ahead:
        behind = ahead[ahead.index("lost") + 1:]
        return len(behind) < 1000 and is_integer_word(word, begin, begin + 999)
    if "numbers" in ahead:
        behind = ahead[3:]
        if word == "lost" and behind:
            return True
        return len(behind) < 200 and is_integer_word(word, max(0, begin - 999), begin + 999)
    return word in ("numbers", "lost")


def is_whole(words):
    return len(words) >= 2 and words[-1] not in ("numbers", "lost")


class TestTexts(unittest.TestCase):

    def test_of_runs(self):
        for run in written.random_runs(200, 145) + [LONG]:
            parts = ["begin", run.begin] + (["numbers", *run.numbers] if run.numbers else []) + (["lost", *run.lost] if run.lost else [])
            self.assertEqual(str(run), " ".join(map(str, parts)))
            self.assertEqual(Run.read(str(run)), run)

    def test_changed(self):
        wrong = refused = 0
        for run in (Run(0), Run(2, (4, 3, 3), (5,)), Run(1500, (501, 2499)), Run(7, (), (8, 9)), Run(MOST, (MOST + 1,), (MOST, MOST + 999))):
            words = ("begin", "numbers", "lost", "1001", "1002", "500", "2500", str(MOST), str(MOST + 1), str(MOST + 999), str(MOST + 1000))
            for text in changed_texts(str(run), words):
                at = wrong_word(text, can_follow, is_whole)
                told = raised(Run.read, text)
                if at is not None:
                    wrong += 1
                    self.assertEqual(told, ("BadText", 0, at), text)
                elif told is None:
                    self.assertEqual(str(Run.read(text)), text)
                else:
                    refused += 1
                    self.assertEqual(told[:2], ("BadRun", "lost"))
        self.assertGreater(wrong, 500)
        self.assertGreater(refused, 5)

    def test_long_texts(self):
        head = " ".join(["1"] * 200)
        lost = " ".join(map(str, range(2, 1000)))
        self.assertEqual(len(Run.read(f"begin 0 numbers {head} lost {lost}").lost), 998)
        self.assertEqual(raised(Run.read, f"begin 0 numbers {head} 1"), ("BadText", 0, 203))
        self.assertEqual(raised(Run.read, f"begin 0 numbers {head} x"), ("BadText", 0, 203))
        self.assertEqual(raised(Run.read, f"begin 0 numbers {head} 1 lost 2"), ("BadText", 0, 203))
        every = " ".join(map(str, range(1000)))
        self.assertEqual(len(Run.read(f"begin 0 lost {every}").lost), 1000)
        self.assertEqual(raised(Run.read, f"begin 0 lost {every} 5"), ("BadText", 0, 1003))
        self.assertEqual(raised(Run.read, "begin 0 numbers 1 lost 2 2"), ("BadRun", "lost", 1))
        self.assertEqual(raised(Run.read, "begin 0 numbers 1 lost 1"), ("BadRun", "lost", 0))

    def test_no_string(self):
        for value in odd_values():
            if not isinstance(value, str):
                self.assertEqual(raised(Run.read, value), ("BadText", 0, 0))
        self.assertEqual(Run.read(text="begin 7"), Run(7))


if __name__ == "__main__":
    unittest.main()
