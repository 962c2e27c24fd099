"""Stamps: bounds, errors in their order, figures, bands, standings, prints, and texts."""

import itertools
import random
import unittest

from jumblepost.stamps import Stamp
from jumblepost.wheels import Wheel
from tests import stamping, test_wheels
from tests.helpers import changed_texts, odd_values, raised, wrong_word

LATE = Wheel.digits(3, 1)
LAGGING = Stamp(Wheel.digits(3), LATE)


def parts_of(words):
    """The words of the wheels, parted at the signs between them."""
    parts = [[]]
    for word in words:
        if word == ";":
            parts.append([])
        else:
            parts[-1].append(word)
    return parts


def follows(words, word):
    """Whether a word can stand behind others in the text of a stamp."""
    parts = parts_of(words)
    if word == ";":
        return test_wheels.whole(parts[-1]) and len(parts) < 6
    return test_wheels.follows(parts[-1], word)


def whole(words):
    return test_wheels.whole(parts_of(words)[-1])


class TestStamp(unittest.TestCase):

    def test_attributes(self):
        wheels = (Wheel(("ab", "cd")), Wheel(("1", "2", "3"), 1, 1), Wheel(("xyz9", "aaaa")))
        stamp = Stamp(*wheels)
        self.assertEqual((stamp.wheels, stamp.cycle, stamp.signs), (wheels, 12, 7))
        self.assertEqual((len(stamp), list(stamp), [wheel for wheel in stamp]), (3, list(wheels), list(wheels)))
        self.assertEqual([stamp[0], stamp[1], stamp[2]], list(wheels))

    def test_bounds(self):
        self.assertEqual(Stamp.digits(10, 10, 10, 10, 10, 10).cycle, 10 ** 6)
        self.assertEqual(Stamp(Wheel(("a", "b"))).cycle, 2)
        wide = Wheel(("aaaa", "bbbb"))
        self.assertEqual(Stamp(wide, wide, wide).signs, 12)
        self.assertEqual(raised(Stamp, wide, wide, wide, Wheel.digits(2)), ("BadStamp", "signs", 0))
        self.assertIsNone(raised(Stamp, Wheel.digits(2), Wheel.digits(4, 1, 1), Wheel.digits(4, 4), Wheel.digits(2, 0, 4)))

    def test_errors_in_order(self):
        plain, late = Wheel.digits(4), Wheel.digits(3, 1)
        self.assertEqual(raised(Stamp), ("BadStamp", "wheels", 0))
        self.assertEqual(raised(Stamp, *[None] * 7), ("BadStamp", "wheels", 0))
        for value in odd_values():
            if not isinstance(value, Wheel):
                self.assertEqual(raised(Stamp, value), ("BadStamp", "wheel", 0))
                self.assertEqual(raised(Stamp, late, plain, value, None), ("BadStamp", "wheel", 2))
        self.assertEqual(raised(Stamp, late), ("BadStamp", "lowest", 0))
        self.assertEqual(raised(Stamp, Wheel.digits(3, 0, 1), Wheel.digits(3, 9)), ("BadStamp", "lowest", 0))
        self.assertEqual(raised(Stamp, plain, Wheel.digits(3, 2, 2), Wheel.digits(3, 2, 2)), ("BadStamp", "bands", 2))
        self.assertEqual(raised(Stamp, plain, Wheel.digits(3, 5), Wheel.digits(3, 0, 9)), ("BadStamp", "bands", 1))
        wide = Wheel(("aaaa", "bbbb"))
        self.assertEqual(raised(Stamp, wide, wide, wide, wide, Wheel.digits(2, 2, 1)), ("BadStamp", "bands", 4))
        self.assertEqual(raised(Stamp, wide, wide, wide, wide), ("BadStamp", "signs", 0))

    def test_digits(self):
        self.assertEqual(Stamp.digits(3, 10), Stamp(Wheel.digits(3), Wheel.digits(10)))
        self.assertEqual(raised(Stamp.digits), ("BadStamp", "wheels", 0))
        self.assertEqual(raised(Stamp.digits, *[2] * 7), ("BadStamp", "wheels", 0))
        for value in [1, 11, *odd_values()]:
            self.assertEqual(raised(Stamp.digits, value), ("BadValue", "size"))
            self.assertEqual(raised(Stamp.digits, 2, 3, value, 2, 2, 2, 2), ("BadValue", "size"))

    def test_index(self):
        for value in [2, *odd_values(), slice(0, 1)]:
            self.assertEqual(raised(lambda: LAGGING[value]), ("BadValue", "index"))

    def test_equality(self):
        stamps = [Stamp(Wheel.digits(3)), Stamp(Wheel.digits(3), LATE), Stamp(Wheel.digits(3), Wheel.digits(3)), Stamp(Wheel.digits(4), LATE)]
        for one, other in itertools.product(range(len(stamps)), repeat=2):
            self.assertIs(stamps[one] == stamps[other], one == other)
        self.assertEqual(LAGGING, Stamp(Wheel.digits(3), Wheel.digits(3, 1)))
        for value in odd_values():
            self.assertFalse(LAGGING == value)


class TestNumbers(unittest.TestCase):

    def check_number(self, stamp, number):
        figures = stamping.due(stamp, number)
        self.assertEqual(stamp.figures(number), figures)
        self.assertEqual(stamp.value(figures), number % stamp.cycle)
        told = list(stamp.standings(number))
        self.assertEqual(told, stamping.standings(stamp, number))
        self.assertEqual(told, sorted(set(told)))
        self.assertEqual(list(stamp.prints(number)), stamping.prints(stamp, number))
        self.assertIsInstance(stamp.prints(number), tuple)
        self.assertEqual(len(set(stamp.prints(number))), len(told))
        for standing in told:
            self.assertEqual(stamp.print_of(standing), stamping.print_of(stamp, standing))

    def test_whole_cycles(self):
        kinds = set()
        for stamp in random_stamps():
            kinds |= {(wheel.lag > 0, wheel.lead > 0) for wheel in stamp.wheels}
            for number in range(stamp.cycle + 3):
                self.check_number(stamp, number)
        self.assertEqual(len(kinds), 4)

    def test_great_numbers(self):
        rand = random.Random(7)
        for stamp in random_stamps()[:20] + [Stamp.digits(10, 10, 10, 10, 10, 10)]:
            for number in (10 ** 60 - 1, rand.randrange(10 ** 59, 10 ** 60), 10 ** 59, stamp.cycle * 10 ** 40):
                self.check_number(stamp, number)
                self.assertEqual(stamp.prints(number), stamp.prints(number % stamp.cycle))

    def test_bands(self):
        for stamp in random_stamps():
            for index, wheel in enumerate(stamp.wheels):
                for figure in range(wheel.size):
                    self.assertEqual(stamp.band(index, figure), stamping.band(stamp, index, figure))
        full = Stamp(Wheel.digits(4), Wheel.digits(3, 3, 1))
        self.assertEqual([full.band(0, figure) for figure in range(4)], [1, 1, 1, 2])
        self.assertEqual(full.band(due=2, index=1), 0)

    def test_cells(self):
        for stamp in random_stamps():
            text = stamp.print_of((0,) * len(stamp))
            for sign in range(stamp.signs):
                index, column = stamp.cell(sign)
                self.assertEqual(stamp.wheels[index].faces[0][column], text[sign])
            self.assertEqual(len({stamp.cell(sign) for sign in range(stamp.signs)}), stamp.signs)
        mixed = Stamp(Wheel(("abc", "abd")), Wheel(("xy", "xz")))
        self.assertEqual([mixed.cell(sign) for sign in range(5)], [(1, 0), (1, 1), (0, 0), (0, 1), (0, 2)])

    def test_all_figures_print(self):
        stamp = Stamp(Wheel(("ab", "cd")), Wheel(("1", "2", "3"), 1, 1))
        self.assertEqual([stamp.print_of((low, high)) for high in range(3) for low in range(2)], ["1ab", "1cd", "2ab", "2cd", "3ab", "3cd"])
        self.assertEqual([stamp.value((low, high)) for high in range(3) for low in range(2)], list(range(6)))


class TestRefused(unittest.TestCase):

    def test_numbers(self):
        for value in odd_values():
            self.assertEqual(raised(LAGGING.figures, value), ("BadValue", "number"))
            self.assertEqual(raised(LAGGING.prints, value), ("BadValue", "number"))
            self.assertEqual(raised(next, LAGGING.standings(value)), ("BadValue", "number"))
        self.assertEqual(LAGGING.figures(number=5), (2, 1))

    def test_figures(self):
        wrong = [(0,), (0, 1, 2), (0, 3), (3, 0), (-1, 0), (0, True), [0, 1], (0, None), ((0, 1),)]
        for value in wrong + odd_values():
            self.assertEqual(raised(LAGGING.value, value), ("BadValue", "figures"))
            self.assertEqual(raised(LAGGING.print_of, value), ("BadValue", "figures"))
        self.assertEqual(LAGGING.print_of(figures=(1, 2)), "21")

    def test_bands_and_cells(self):
        for value in [2, *odd_values()]:
            self.assertEqual(raised(LAGGING.band, value, value), ("BadValue", "index"))
            self.assertEqual(raised(LAGGING.cell, value), ("BadValue", "sign"))
        for value in [3, *odd_values()]:
            self.assertEqual(raised(LAGGING.band, 1, value), ("BadValue", "due"))
        self.assertEqual(LAGGING.cell(sign=1), (0, 0))


class TestText(unittest.TestCase):

    def test_read_back(self):
        for stamp in [*random_stamps(), Stamp.digits(10, 2, 2, 2, 2, 2), Stamp(Wheel(("aaaa", "bbbb")))]:
            self.assertEqual(Stamp.read(str(stamp)), stamp)
            self.assertEqual(Stamp.read(text=str(stamp)), stamp)
        self.assertEqual(str(LAGGING), "0 1 2 / 0 0 ; 0 1 2 / 1 0")

    def test_changed_texts(self):
        six = " ; ".join(["a b / 0 0"] * 6)
        for text in (str(LAGGING), six, "ab cd / 0 0 ; 1 2 / 1 1"):
            for changed in changed_texts(text, ("/", ";", "ab", "c", "2", "10", "11", ";;")):
                at = wrong_word(changed, follows, whole)
                if at is not None:
                    self.assertEqual(raised(Stamp.read, changed), ("BadText", 0, at), changed)
                    continue
                told = raised(Stamp.read, changed)
                if told is None:
                    self.assertEqual(str(Stamp.read(changed)), changed)
                else:
                    self.assertEqual(told[0], "BadStamp", changed)

    def test_what_the_class_raises(self):
        seven = " ; ".join(["a b / 0 0"] * 7)
        self.assertEqual(raised(Stamp.read, seven), ("BadText", 0, 35))
        self.assertEqual(raised(Stamp.read, "a b / 1 0 ; a b / 3 0"), ("BadStamp", "lowest", 0))
        self.assertEqual(raised(Stamp.read, "a b / 0 0 ; a b / 3 0"), ("BadStamp", "bands", 1))
        self.assertEqual(raised(Stamp.read, " ; ".join(["aaaa bbbb / 0 0"] * 4)), ("BadStamp", "signs", 0))
        self.assertEqual(raised(Stamp.read, "a b / 1 0 ; a b / 3"), ("BadText", 0, 10))

    def test_no_string(self):
        for value in odd_values():
            told = wrong_word(value, follows, whole) if isinstance(value, str) else 0
            self.assertEqual(raised(Stamp.read, value), ("BadText", 0, told))


def random_stamps():
    return stamping.random_stamps(60, 51)


if __name__ == "__main__":
    unittest.main()
