"""Patterns: against all numbers of small cycles, great cycles, great numbers, refusals."""

import itertools
import random
import time
import unittest

from jumblepost.printed import count_printed, next_printed, printed
from jumblepost.stamps import Stamp
from jumblepost.wheels import Wheel
from tests import stamping
from tests.helpers import odd_values, raised

MILLION = Stamp.digits(10, 10, 10, 10, 10, 10)


def fits(stamp, pattern, number):
    """Whether a number fits, by the words of the document."""
    for text in stamping.prints(stamp, number):
        if all(want in (".", sign) for want, sign in zip(pattern, text)):
            return True
    return False


def patterns(stamp, rand, many):
    """Patterns of a stamp: of all points, of prints with points, and of any signs."""
    found = ["." * stamp.signs]
    for _ in range(many):
        text = rand.choice(stamping.prints(stamp, rand.randrange(stamp.cycle)))
        found.append("".join(rand.choice((sign, ".")) for sign in text))
        found.append("".join(rand.choice("ab1.") for _ in text))
    return found


class TestSmallCycles(unittest.TestCase):

    def test_against_all_numbers(self):
        rand = random.Random(61)
        none = 0
        for stamp in stamping.random_stamps(50, 61):
            for pattern in patterns(stamp, rand, 6):
                found = [number for number in range(stamp.cycle) if fits(stamp, pattern, number)]
                none += not found
                self.assertEqual(count_printed(stamp, pattern), len(found))
                self.assertEqual([printed(stamp, pattern, k) for k in range(len(found))], found)
                for index in (-1, len(found)):
                    self.assertEqual(raised(printed, stamp, pattern, index), ("BadValue", "index"))
                self.check_next(stamp, pattern, found)
        self.assertGreater(none, 20)

    def check_next(self, stamp, pattern, found):
        for number in range(2 * stamp.cycle + 1):
            told = next_printed(stamp, pattern, number)
            if found:
                later = [begin + low for begin in range(0, 4 * stamp.cycle, stamp.cycle) for low in found]
                self.assertEqual(told, min(low for low in later if low >= number))
            else:
                self.assertIsNone(told)

    def test_lag_lead_and_both(self):
        for lag, lead in itertools.product(range(4), repeat=2):
            if lag + lead > 3:
                continue
            stamp = Stamp(Wheel.digits(3), Wheel.digits(3, lag, lead), Wheel.digits(2, lead, lag))
            for pattern in ("".join(told) for told in itertools.product("012.", repeat=3)):
                found = [number for number in range(18) if fits(stamp, pattern, number)]
                self.assertEqual([printed(stamp, pattern, k) for k in range(count_printed(stamp, pattern))], found)


class TestGreat(unittest.TestCase):

    def test_a_million(self):
        begin = time.monotonic()
        self.assertEqual(count_printed(MILLION, "......"), 10 ** 6)
        self.assertEqual(count_printed(MILLION, "1.3.5."), 1000)
        self.assertEqual(printed(MILLION, "1.3.5.", 999), 193959)
        self.assertEqual(printed(MILLION, "1.3.5.", 12), 103152)
        self.assertEqual(next_printed(MILLION, "1.3.5.", 193960), 10 ** 6 + 103050)
        self.assertEqual(next_printed(MILLION, "99999a", 5), None)
        self.assertEqual(raised(printed, MILLION, "99999a", 0), ("BadValue", "index"))
        for number in range(0, 10 ** 6, 9973):
            self.assertEqual(printed(MILLION, "......", number), number)
            self.assertEqual(next_printed(MILLION, "......", number), number)
        self.assertLess(time.monotonic() - begin, 10)

    def test_a_million_that_slips(self):
        stamp = Stamp(Wheel.digits(), *[Wheel.digits(10, 2, 3) for _ in range(5)])
        total = count_printed(stamp, "1.....")
        rand = random.Random(62)
        for index in [0, total - 1, *rand.sample(range(total), 40)]:
            number = printed(stamp, "1.....", index)
            self.assertTrue(fits(stamp, "1.....", number))
            self.assertEqual(next_printed(stamp, "1.....", number), number)
            behind = next_printed(stamp, "1.....", number + 1)
            if index + 1 < total:
                self.assertEqual(behind, printed(stamp, "1.....", index + 1))
            self.assertFalse(any(fits(stamp, "1.....", k) for k in range(number + 1, min(behind, number + 50))))
        # 10 ** 5 numbers are due at 1, and 20000 of 2 and 30000 of 0 may show it.
        self.assertEqual(total, 150000)

    def test_numbers_of_60_digits(self):
        most = 10 ** 60 - 1
        self.assertEqual(next_printed(MILLION, "999999", most), most)
        self.assertEqual(next_printed(MILLION, "000000", most), 10 ** 60)
        self.assertEqual(next_printed(MILLION, "12345.", 10 ** 59 + 123460), 10 ** 59 + 10 ** 6 + 123450)
        for stamp in stamping.random_stamps(30, 63):
            for number in (most, 10 ** 59 + 7):
                for pattern in patterns(stamp, random.Random(64), 3):
                    low = next_printed(stamp, pattern, number % stamp.cycle)
                    told = None if low is None else number - number % stamp.cycle + low
                    self.assertEqual(next_printed(stamp, pattern, number), told)


class TestRefused(unittest.TestCase):

    def test_any_values(self):
        stamp = Stamp.digits(3, 3)
        for value in odd_values():
            if not isinstance(value, Stamp):
                self.assertEqual(raised(count_printed, value, value), ("BadValue", "stamp"))
                self.assertEqual(raised(printed, value, value, value), ("BadValue", "stamp"))
                self.assertEqual(raised(next_printed, value, value, value), ("BadValue", "stamp"))
            for wrong in (value, "0", "012", "A.", "0 ", "0\n", "_0", ["0", "1"], ("0", "1")):
                self.assertEqual(raised(count_printed, stamp, wrong), ("BadValue", "pattern"))
                self.assertEqual(raised(printed, stamp, wrong, value), ("BadValue", "pattern"))
                self.assertEqual(raised(next_printed, stamp, wrong, value), ("BadValue", "pattern"))
            self.assertEqual(raised(printed, stamp, "..", value), ("BadValue", "index"))
            self.assertEqual(raised(next_printed, stamp, "..", value), ("BadValue", "number"))
            self.assertEqual(raised(next_printed, stamp, "xx", value), ("BadValue", "number"))

    def test_names(self):
        stamp = Stamp.digits(3, 3)
        self.assertEqual(count_printed(pattern="1.", stamp=stamp), 3)
        self.assertEqual(printed(index=2, pattern="1.", stamp=stamp), 5)
        self.assertEqual(next_printed(number=6, pattern="1.", stamp=stamp), 12)
        for index in (-1, 3, 10 ** 60):
            self.assertEqual(raised(printed, stamp, "1.", index), ("BadValue", "index"))


if __name__ == "__main__":
    unittest.main()
