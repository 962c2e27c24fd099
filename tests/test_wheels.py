"""Wheels: bounds, errors in their order, what may be shown, and texts."""

import itertools
import re
import unittest

from jumblepost.wheels import Wheel
from tests.helpers import changed_texts, is_integer_word, odd_values, raised, wrong_word


def is_face_word(word, ahead):
    """Whether a word can be the face behind others."""
    fits = re.fullmatch("[0-9a-z]{1,4}", word) is not None
    return fits and len(ahead) < 10 and word not in ahead and all(len(word) == len(face) for face in ahead)


def follows(words, word):
    """Whether a word can stand behind others in the text of a wheel."""
    if "/" not in words:
        return (word == "/" and len(words) >= 2) or is_face_word(word, words)
    return len(words) - words.index("/") <= 2 and is_integer_word(word, 0, 10)


def whole(words):
    return "/" in words and len(words) - words.index("/") == 3


class TestWheel(unittest.TestCase):

    def test_attributes(self):
        faces = ["ab", "0z", "99"]
        wheel = Wheel(faces, 10, 3)
        faces.clear()
        self.assertEqual((wheel.faces, wheel.lag, wheel.lead, wheel.size, wheel.signs), (("ab", "0z", "99"), 10, 3, 3, 2))
        self.assertEqual(wheel, Wheel(lead=3, lag=10, faces=("ab", "0z", "99")))
        bare = Wheel(("a", "b"))
        self.assertEqual((bare.lag, bare.lead, bare.signs), (0, 0, 1))

    def test_bounds(self):
        for many in range(2, 11):
            self.assertEqual(Wheel([str(k) * 4 for k in range(many)], many, 10).size, many)
        for lag, lead in ((0, 0), (10, 10), (0, 10), (10, 0)):
            self.assertIsNone(raised(Wheel, ("a", "b"), lag, lead))

    def test_wrong_faces(self):
        for value in odd_values() + [("0",), list("0123456789a"), "01", {0: "0", 1: "1"}]:
            if isinstance(value, (list, tuple)) and 2 <= len(value) <= 10:
                continue
            self.assertEqual(raised(Wheel, value), ("BadStamp", "faces", 0))
            self.assertEqual(raised(Wheel, value, None, None), ("BadStamp", "faces", 0))

    def test_wrong_face(self):
        wrong = ["", "abcde", "A", "a b", ".", "ab", "1", "_", "\n", "a\n"]
        for value in wrong + [value for value in odd_values() if value not in ("0", "x")]:
            self.assertEqual(raised(Wheel, ("1", "0", value), None, None), ("BadStamp", "face", 2))
        for value in ("abcde", "", "A", None, True, ["a"]):
            self.assertEqual(raised(Wheel, (value, value)), ("BadStamp", "face", 0))
        self.assertEqual(raised(Wheel, ("ab", "cd", "e", "ab")), ("BadStamp", "face", 2))
        self.assertEqual(raised(Wheel, ("a", "a", "", None)), ("BadStamp", "face", 1))

    def test_wrong_lag_and_lead(self):
        for value in [11, *odd_values()]:
            self.assertEqual(raised(Wheel, ("a", "b"), value, value), ("BadStamp", "lag", 0))
            self.assertEqual(raised(Wheel, ("a", "b"), 0, value), ("BadStamp", "lead", 0))
            self.assertEqual(raised(Wheel, ("a", "b"), lead=value), ("BadStamp", "lead", 0))

    def test_digits(self):
        for size in range(2, 11):
            wheel = Wheel.digits(size, 1, lead=2)
            self.assertEqual(wheel, Wheel(tuple("0123456789"[:size]), 1, 2))
        self.assertEqual(Wheel.digits(), Wheel.digits(size=10, lag=0, lead=0))
        for value in [0, 1, 11, *odd_values()]:
            self.assertEqual(raised(Wheel.digits, value, value, value), ("BadValue", "size"))
            if value not in (0, 1) or isinstance(value, bool):
                self.assertEqual(raised(Wheel.digits, 3, value, value), ("BadStamp", "lag", 0))
                self.assertEqual(raised(Wheel.digits, 3, 0, value), ("BadStamp", "lead", 0))

    def test_may(self):
        for size in range(2, 11):
            wheel = Wheel.digits(size)
            for due in range(size):
                shown = {0: {due}, 1: {due, (due - 1) % size}, 2: {due, (due + 1) % size}}
                self.assertEqual(wheel.may(due), (due,))
                for band in range(3):
                    self.assertEqual(wheel.may(due, band), tuple(sorted(shown[band])))
                    self.assertEqual(Wheel.digits(size, 5, 5).may(band=band, due=due), wheel.may(due, band))

    def test_may_refuses(self):
        wheel = Wheel.digits(4)
        for value in [4, *odd_values()]:
            self.assertEqual(raised(wheel.may, value, value), ("BadValue", "due"))
            self.assertEqual(raised(wheel.may, 3, value), ("BadValue", "band"))
        self.assertEqual(raised(wheel.may, 3, 3), ("BadValue", "band"))

    def test_equality(self):
        wheels = [Wheel(faces, lag, lead) for faces in (("a", "b"), ("b", "a"), ("a", "b", "c")) for lag in (0, 1) for lead in (0, 1)]
        for one, other in itertools.product(range(len(wheels)), repeat=2):
            self.assertIs(wheels[one] == wheels[other], one == other)
        for value in odd_values():
            self.assertFalse(wheels[0] == value)


class TestText(unittest.TestCase):

    def test_read_back(self):
        for wheel in (Wheel.digits(), Wheel.digits(2, 10, 10), Wheel(("abcd", "0000", "zzz9"), 0, 7), Wheel(("1", "0"), 1, 2)):
            self.assertEqual(Wheel.read(str(wheel)), wheel)
            self.assertEqual(Wheel.read(text=str(wheel)), wheel)
        self.assertEqual(str(Wheel(("ab", "cd"), 3, 10)), "ab cd / 3 10")

    def test_changed_texts(self):
        words = ("/", ";", "a", "ab", "abcd", "abcde", "A", "10", "11", "2", "//")
        for text in ("0 1 2 / 1 0", "0 1 2 3 4 5 6 7 8 9 / 10 0", "abcd 0000 / 0 10", "a b / 0 0"):
            for changed in changed_texts(text, words):
                at = wrong_word(changed, follows, whole)
                if at is not None:
                    self.assertEqual(raised(Wheel.read, changed), ("BadText", 0, at), changed)
                else:
                    self.assertEqual(str(Wheel.read(changed)), changed)

    def test_no_string(self):
        for value in odd_values():
            told = wrong_word(value, follows, whole) if isinstance(value, str) else 0
            self.assertEqual(raised(Wheel.read, value), ("BadText", 0, told))


if __name__ == "__main__":
    unittest.main()
