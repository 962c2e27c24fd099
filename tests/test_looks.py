"""Looks: against all standings, ways of lying and placings; great numbers; any value as a look."""

import random
import time
import unittest

from jumblepost.lines import Line
from jumblepost.looks import are_alike, common_looks, is_look, look_of, looks, next_shown, shows
from jumblepost.sheets import Cell, Panel, Sheet
from jumblepost.stamps import Stamp
from jumblepost.stations import Station
from jumblepost.wheels import Wheel
from tests import small_lines
from tests.helpers import odd_values, raised
from tests.test_lines import STRIP, sliding

MOST = 10 ** 60 - 1
PAIR = Sheet((Panel.firm(2),), (0,), (Cell(0, 0, 0), Cell(0, 0, 1)))
LINE = Line(PAIR, Stamp.digits(3, 3), Station(3, ((0, 2),)))


def cases(many, seed):
    """Small lines with the looks of all numbers of their cycle."""
    for line in small_lines.small_lines(many, seed):
        yield line, [small_lines.all_looks(line, number) for number in range(line.stamp.cycle)]


def changed_looks(look):
    """Values that are like a look, but for one thing."""
    told = [list(look), look + ("",), look[:-1], tuple(text + "a" for text in look), tuple(text[1:] for text in look)]
    told += [tuple(text[::-1] for text in look), tuple(text.upper() for text in look), tuple(text.replace("a", ".") for text in look)]
    told += [tuple(list(text) for text in look), tuple("." * len(text) for text in look), tuple(text + "\n" for text in look), tuple(None for _ in look)]
    return told


class TestLookOf(unittest.TestCase):

    def test_signs_from_left_to_right(self):
        self.assertEqual(look_of(((2, 0), (), (1,)), "abc"), ("ca", "", "b"))
        self.assertEqual(look_of(view=(), text=""), ())
        self.assertEqual(look_of(((), ()), ""), ("", ""))
        self.assertEqual(look_of(((0, 0),), "~!"), ("~~",))

    def test_views_that_are_none(self):
        wrong = [[(0,)], ([0],), ((0,), 0), ((True,),), ((-1,),), ((0, None),), (("0",),), "0", ((0,), ((0,),))]
        for value in wrong + [value for value in odd_values() if value != ()]:
            self.assertEqual(raised(look_of, value, "abc"), ("BadValue", "view"))
            self.assertEqual(raised(look_of, value, value), ("BadValue", "view"))

    def test_texts_without_a_sign(self):
        for value in odd_values():
            if not isinstance(value, str) or len(value) < 2:
                self.assertEqual(raised(look_of, ((0,), (1,)), value), ("BadValue", "text"))
            if not isinstance(value, str):
                self.assertEqual(raised(look_of, (), value), ("BadValue", "text"))
        self.assertEqual(raised(look_of, ((3,),), "abc"), ("BadValue", "text"))
        self.assertEqual(raised(look_of, ((10 ** 60,),), "abc"), ("BadValue", "text"))
        self.assertEqual(look_of(((2,),), "abc"), ("c",))


class TestAgainstAll(unittest.TestCase):

    def test_looks(self):
        slips = 0
        for line, told in cases(60, 81):
            slips += any(wheel.lag + wheel.lead > 0 for wheel in line.stamp.wheels)
            for number in range(line.stamp.cycle):
                self.assertEqual(list(looks(line, number)), told[number])
                self.assertIsInstance(looks(line, number), tuple)
            for number in (line.stamp.cycle, line.stamp.cycle * 7 + 1, MOST, 10 ** 59):
                self.assertEqual(list(looks(line, number)), told[number % line.stamp.cycle])
        self.assertGreater(slips, 15)

    def test_shows_and_is_look(self):
        rand = random.Random(82)
        for line, told in cases(50, 82):
            every = sorted({look for found in told for look in found})
            changed = [other for look in rand.sample(every, min(3, len(every))) for other in changed_looks(look)]
            for look in every[:12] + changed:
                self.assertIs(is_look(line, look), look in every)
                for number in range(min(line.stamp.cycle, 20)):
                    self.assertIs(shows(line, number, look), look in told[number])
                for number in (line.stamp.cycle + 1, MOST):
                    self.assertIs(shows(line, number, look), look in told[number % line.stamp.cycle])

    def test_common_looks(self):
        rand = random.Random(83)
        alike = 0
        for line, told in cases(40, 83):
            for _ in range(30):
                one, other = rand.randrange(line.stamp.cycle), rand.randrange(line.stamp.cycle)
                both = tuple(look for look in told[one] if look in told[other])
                far = other + line.stamp.cycle * rand.choice((0, 1, 10 ** 50))
                self.assertEqual(common_looks(line, one, far), both)
                self.assertEqual(common_looks(line, far, one), both)
                self.assertIs(are_alike(line, one, far), bool(both))
                alike += bool(both)
        self.assertGreater(alike, 100)

    def test_next_shown(self):
        rand = random.Random(84)
        for line, told in cases(50, 84):
            cycle = line.stamp.cycle
            every = sorted({look for found in told for look in found})
            for look in rand.sample(every, min(5, len(every))):
                for number in [*range(cycle + 2), 5 * cycle - 1, MOST, MOST - cycle]:
                    least = number
                    while look not in told[least % cycle]:
                        least += 1
                    self.assertEqual(next_shown(line, look, number), least)
            for look in changed_looks(every[0]):
                if look not in every:
                    self.assertIsNone(next_shown(line, look, 3))


class TestLines(unittest.TestCase):

    def test_one_cell_at_two_stations(self):
        line = Line(PAIR, Stamp.digits(3, 3), Station(2, ((0, 1),)), Station(2, ((0, 2),)))
        self.assertEqual(line.views, (((0,), (0, 1)),))
        self.assertEqual(looks(line, 5), (("1", "12"),))
        self.assertIs(is_look(line, ("1", "12")), True)
        self.assertIs(is_look(line, ("0", "12")), False)
        self.assertEqual(next_shown(line, ("1", "12"), 6), 14)
        self.assertIsNone(next_shown(line, ("0", "12"), 0))

    def test_one_print_at_all_stations(self):
        stamp = Stamp(Wheel.digits(3), Wheel.digits(3, 1))
        line = Line(PAIR, stamp, Station(2, ((0, 1),)), Station(2, ((0, 1),)))
        self.assertEqual(looks(line, 3), (("0", "0"), ("1", "1")))
        self.assertIs(shows(line, 3, ("0", "1")), False)

    def test_empty_looks(self):
        line = Line(PAIR, Stamp.digits(3, 3), Station(4, ((0, 1),), (), True))
        self.assertIn(("",), looks(line, 0))
        self.assertIs(is_look(line, ("",)), True)
        self.assertEqual(next_shown(line, ("",), MOST), MOST)
        self.assertIs(are_alike(line, 1, 2), True)

    def test_result_of_61_digits(self):
        stamp = Stamp.digits(10, 10)
        line = Line(PAIR, stamp, Station(2, ((0, 2),)))
        self.assertEqual(next_shown(line, ("00",), MOST), 10 ** 60)
        self.assertEqual(next_shown(line, ("98",), MOST), 10 ** 60 + 98)
        self.assertEqual(next_shown(line, ("99",), MOST), MOST)

    def test_great_line_at_once(self):
        begin = time.monotonic()
        stamp = Stamp(Wheel(("ab", "cd", "ef", "gh")), *[Wheel(("ab", "ba", "cc", "ad"), 2, 2) for _ in range(5)])
        line = Line(STRIP, stamp, sliding(10), sliding(6))
        told = looks(line, 2 * 10 ** 30)
        self.assertTrue(all(shows(line, 2 * 10 ** 30, look) for look in told[:100]))
        for look in told[:20]:
            self.assertEqual(next_shown(line, look, 2 * 10 ** 30), 2 * 10 ** 30)
        self.assertLess(time.monotonic() - begin, 20)


class TestRefused(unittest.TestCase):

    def test_lines(self):
        for value in odd_values():
            if isinstance(value, Line):
                continue
            told = ("BadValue", "line")
            self.assertEqual(raised(looks, value, value), told)
            self.assertEqual(raised(shows, value, value, value), told)
            self.assertEqual(raised(is_look, value, value), told)
            self.assertEqual(raised(common_looks, value, value, value), told)
            self.assertEqual(raised(are_alike, value, value, value), told)
            self.assertEqual(raised(next_shown, value, value, value), told)

    def test_numbers(self):
        for value in odd_values():
            self.assertEqual(raised(looks, LINE, value), ("BadValue", "number"))
            self.assertEqual(raised(shows, LINE, value, value), ("BadValue", "number"))
            self.assertEqual(raised(next_shown, LINE, value, value), ("BadValue", "number"))
            for call in (common_looks, are_alike):
                self.assertEqual(raised(call, LINE, value, value), ("BadValue", "one"))
                self.assertEqual(raised(call, LINE, 1, value), ("BadValue", "other"))

    def test_any_value_as_a_look(self):
        for value in odd_values():
            self.assertIs(shows(LINE, 1, value), False)
            self.assertIs(is_look(LINE, value), False)
            self.assertIsNone(next_shown(LINE, value, 1))
            self.assertIs(shows(LINE, 1, (value,)), value == "0")
            self.assertIs(is_look(LINE, (value,)), value == "0")

    def test_names(self):
        self.assertEqual(looks(number=4, line=LINE), (("1",), ("11",)))
        self.assertIs(shows(look=("11",), number=4, line=LINE), True)
        self.assertIs(is_look(look=("22",), line=LINE), True)
        self.assertEqual(common_looks(other=5, one=4, line=LINE), (("1",),))
        self.assertIs(are_alike(other=5, one=4, line=LINE), True)
        self.assertEqual(next_shown(number=5, look=("11",), line=LINE), 13)


if __name__ == "__main__":
    unittest.main()
