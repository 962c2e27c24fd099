"""Rows: bounds, contraries, what holds, and texts."""

import itertools
import unittest

from jumblepost.rows import Row
from tests.helpers import changed_texts, is_integer_word, odd_values, raised, wrong_word

MILLION = 10 ** 6


def is_point_word(word):
    return word in ["x" + str(point) for point in range(12)]


def follows(words, word):
    checks = [
        is_point_word, lambda told: told == "-", is_point_word, lambda told: told == "<=",
        lambda told: is_integer_word(told, -MILLION, MILLION - 1),
    ]
    return len(words) < len(checks) and checks[len(words)](word)


class TestRow(unittest.TestCase):

    def test_bounds(self):
        for one, other in itertools.permutations((0, 1, 5, 11), 2):
            for most in (-MILLION, -MILLION + 1, -1, 0, 1, MILLION - 2, MILLION - 1):
                row = Row(one, other, most)
                self.assertEqual((row.one, row.other, row.most), (one, other, most))
                self.assertEqual(row, Row(most=most, other=other, one=one))

    def test_first_wrong_part(self):
        goods = ((0, 11, 3), (1, 0, -5), (7, 7, 0))
        wrong_points = [12, -1, *odd_values()]
        wrong_mosts = [MILLION, -MILLION - 1, *[value for value in odd_values() if value != -1 or value is True]]
        for one, other, most in goods:
            for point in wrong_points:
                self.assertEqual(raised(Row, point, other, most), ("BadRow", 0))
                self.assertEqual(raised(Row, point, point, None), ("BadRow", 0))
                self.assertEqual(raised(Row, one, point, most), ("BadRow", 1))
                self.assertEqual(raised(Row, one, point, None), ("BadRow", 1))
        for most in wrong_mosts:
            self.assertEqual(raised(Row, 0, 1, most), ("BadRow", 2))
            self.assertEqual(raised(Row, 4, 4, most), ("BadRow", 1))
        self.assertEqual(raised(Row, 4, 4, 0), ("BadRow", 1))

    def test_equality(self):
        rows = [Row(one, other, most) for one, other in ((0, 1), (1, 0), (0, 2)) for most in (-1, 0, 1)]
        for at, row in enumerate(rows):
            for place, other in enumerate(rows):
                self.assertEqual(row == other, at == place)
                self.assertEqual(row != other, at != place)
            for value in odd_values():
                if not isinstance(value, Row):
                    self.assertFalse(row == value)
        self.assertFalse(Row(0, 1, 1) == (0, 1, 1))

    def test_contrary(self):
        for most in (-MILLION, -3, 0, 2, MILLION - 1):
            row = Row(2, 0, most)
            self.assertEqual(~row, Row(0, 2, -most - 1))
            self.assertEqual(~~row, row)

    def test_just_one_holds(self):
        for most in range(-4, 5):
            row = Row(1, 3, most)
            for places in itertools.product(range(-1, 3), repeat=4):
                self.assertIs(row.holds(places), places[1] - places[3] <= most)
                self.assertIs((~row).holds(list(places)), not row.holds(list(places)))

    def test_holds_of_any_length(self):
        row = Row(2, 0, 5)
        self.assertIs(row.holds((1, 10 ** 60, 6)), True)
        self.assertIs(row.holds([0, 0, 6, *range(3000)]), False)
        self.assertIs(row.holds(places=(0, 0, 5)), True)
        self.assertIs(row.holds((-10 ** 60, 0, 10 ** 60)), False)

    def test_holds_refuses(self):
        row = Row(2, 0, 5)
        wrong = [(), (0, 0), [1, 2], (0, True, 0), (0, 0, 0, None), [0, 0, 0, "0"], (0, 0, (0,)), "000", {0: 0, 1: 0, 2: 0}]
        for value in wrong + [value for value in odd_values() if value != [1] * 3000]:
            self.assertEqual(raised(row.holds, value), ("BadValue", "places"))

    def test_text(self):
        for one, other, most in ((2, 0, 5), (11, 10, -MILLION), (0, 11, MILLION - 1), (1, 2, 0)):
            row = Row(one, other, most)
            self.assertEqual(str(row), f"x{one} - x{other} <= {most}")
            self.assertEqual(Row.read(str(row)), row)
            self.assertEqual(Row.read(text=str(row)), row)

    def test_changed_texts(self):
        words = ("x0", "x11", "x12", "x01", "x-1", "X1", "<", "=<", "<=", "-", "--1", "1000000", "-1000000", "-1000001", "999999")
        for text in ("x2 - x0 <= 5", "x11 - x10 <= -1000000", "x1 - x0 <= 0"):
            for changed in changed_texts(text, words):
                at = wrong_word(changed, follows, lambda told: len(told) == 5)
                if at is not None:
                    self.assertEqual(raised(Row.read, changed), ("BadText", 0, at), changed)
                elif changed.split(" ")[0] == changed.split(" ")[2]:
                    self.assertEqual(raised(Row.read, changed), ("BadRow", 1), changed)
                else:
                    self.assertEqual(str(Row.read(changed)), changed)

    def test_no_string(self):
        for value in odd_values():
            told = 0
            if isinstance(value, str):
                told = wrong_word(value, follows, lambda words: len(words) == 5)
            self.assertEqual(raised(Row.read, value), ("BadText", 0, told))
        self.assertEqual(raised(Row.read, "x2 - x2 <= 0"), ("BadRow", 1))
        self.assertEqual(raised(Row.read, "x2 - x2 <= 1000000"), ("BadText", 0, 4))


if __name__ == "__main__":
    unittest.main()
