"""Stations: bounds, faults in their order, pushes, and texts."""

import unittest

from jumblepost.rows import Row
from jumblepost.stations import Station
from tests.helpers import changed_texts, is_integer_word, odd_values, raised, wrong_word

MILLION = 10 ** 6


def follows(words, word):
    """Whether a word can stand behind others in the text of a station."""
    if len(words) < 4:
        if len(words) % 2 == 0:
            return word == ("station", "panes")[len(words) // 2]
        return is_integer_word(word, 1, 60 if len(words) == 1 else 3)
    at = len(words) - 4
    panes = int(words[3])
    if at < 2 * panes:
        return is_integer_word(word, 0, 60)
    at -= 2 * panes
    if at == 0:
        return word == "rows"
    if at == 1:
        return is_integer_word(word, 0, 12)
    at -= 2
    rows = int(words[5 + 2 * panes])
    if at < 3 * rows:
        return is_integer_word(word, *((0, 11), (0, 11), (-MILLION, MILLION - 1))[at % 3])
    return at == 3 * rows and word in ("plain", "either")


def whole(words):
    return words[-1] in ("plain", "either")


class TestStation(unittest.TestCase):

    def test_attributes(self):
        panes, rows = [(0, 2), (4, 5)], [Row(1, 0, 2)]
        station = Station(5, panes, rows, True)
        panes.clear()
        rows.clear()
        self.assertEqual((station.width, station.panes, station.rows, station.either), (5, ((0, 2), (4, 5)), (Row(1, 0, 2),), True))
        self.assertEqual((Station.MOST_PANES, Station.WIDEST), (3, 60))
        bare = Station(panes=((0, 1),), width=1)
        self.assertEqual((bare.rows, bare.either), ((), False))
        self.assertEqual(station, Station(either=True, rows=station.rows, panes=station.panes, width=5))

    def test_kinds_in_order(self):
        panes = ((0, 1),)
        for value in [0, 61, *odd_values()]:
            self.assertEqual(raised(Station, value, value, value, value), ("BadValue", "width"))
        for value in odd_values():
            self.assertEqual(raised(Station, 5, value, value, value), ("BadValue", "panes"))
            self.assertEqual(raised(Station, 5, (value,), value, value), ("BadValue", "panes"))
            self.assertEqual(raised(Station, 5, ((0, 1), (2, value)), None, None), ("BadValue", "rows" if type(value) is int else "panes"))
            if value != () and value != []:
                self.assertEqual(raised(Station, 5, panes, value, None), ("BadValue", "rows"))
            if not isinstance(value, Row):
                self.assertEqual(raised(Station, 5, ((9, 9),), (Row(1, 0, 2), value)), ("BadValue", "rows"))
            if not isinstance(value, bool):
                self.assertEqual(raised(Station, 5, ((9, 9),), (), value), ("BadValue", "either"))
        for value in ((), [[0, 1]], ((0, 1, 2),), ((0,),), ((0, 1),) * 4, ((0, True),), {(0, 1): 1}, [(0, 1), [2, 3]]):
            self.assertEqual(raised(Station, 5, value), ("BadValue", "panes"))
        self.assertEqual(raised(Station, 5, panes, (), 1), ("BadValue", "either"))

    def test_bounds(self):
        self.assertIsNone(raised(Station, 60, ((0, 60),)))
        self.assertIsNone(raised(Station, 1, ((0, 1),)))
        self.assertIsNone(raised(Station, 5, ((0, 1), (2, 3), (4, 5)), [Row(1, 0, 2)] * 12))
        self.assertEqual(raised(Station, 5, ((0, 1),), [Row(1, 0, 2)] * 13), ("BadValue", "rows"))
        self.assertIsNone(raised(Station, 5, ((0, 1),), [Row(11, 0, 2)]))

    def test_panes(self):
        faults = (
            (((-1, 2),), 0), (((2, 2),), 0), (((3, 2),), 0), (((0, 6),), 0), (((5, 6),), 0), (((0, 10 ** 60),), 0),
            (((0, 2), (2, 3)), 1), (((0, 2), (1, 3)), 1), (((3, 4), (0, 1)), 1), (((0, 1), (2, 3), (3, 4)), 2),
            (((0, 1), (2, 3), (4, 6)), 2), (((0, 0), (0, 0)), 0), (((0, 1), (0, 0), (9, 9)), 1),
        )
        for panes, index in faults:
            self.assertEqual(raised(Station, 5, panes), ("BadStation", "pane", index))
            self.assertEqual(raised(Station, 5, list(panes)), ("BadStation", "pane", index))
        self.assertIsNone(raised(Station, 5, ((0, 2), (3, 5))))

    def test_equality(self):
        rows = (Row(1, 0, 2), Row(0, 1, 0))
        station = Station(5, ((0, 1),), rows)
        self.assertEqual(station, Station(5, [(0, 1)], list(rows)))
        others = (
            Station(6, ((0, 1),), rows), Station(5, ((0, 2),), rows), Station(5, ((0, 1),), rows[::-1]),
            Station(5, ((0, 1),), rows[:1]), Station(5, ((0, 1),), rows, True),
        )
        for other in others:
            self.assertNotEqual(station, other)
        for value in odd_values():
            self.assertFalse(station == value)

    def test_pushed(self):
        rows = [Row(1, 0, most) for most in range(12)]
        station = Station(5, ((0, 1),), rows[:2], True)
        more = station.pushed(*rows[2:])
        self.assertEqual(more, Station(5, ((0, 1),), rows, True))
        self.assertEqual(station.rows, tuple(rows[:2]))
        self.assertEqual(station.pushed(), station)
        self.assertEqual(raised(more.pushed, rows[0]), ("BadValue", "rows"))
        self.assertIsNone(raised(more.pushed))
        for value in odd_values():
            if not isinstance(value, Row):
                self.assertEqual(raised(station.pushed, value), ("BadValue", "rows"))
                self.assertEqual(raised(station.pushed, rows[0], value), ("BadValue", "rows"))


class TestText(unittest.TestCase):

    def test_read_back(self):
        row = Row(11, 10, -MILLION)
        stations = (
            Station(1, ((0, 1),)), Station(60, ((0, 1), (2, 3), (59, 60)), [row] * 12, True),
            Station(10, ((1, 5),), [Row(1, 0, 2)]),
        )
        for station in stations:
            self.assertEqual(Station.read(str(station)), station)
            self.assertEqual(Station.read(text=str(station)), station)
        self.assertEqual(str(stations[2]), "station 10 panes 1 1 5 rows 1 1 0 2 plain")
        self.assertEqual(str(Station(2, ((0, 2),), (), True)), "station 2 panes 1 0 2 rows 0 either")

    def test_changed_texts(self):
        words = ("station", "panes", "rows", "either", "Plain", "2", "3", "4", "5", "12", "13", "60", "11", "-1000000", "1000000")
        for text in ("station 10 panes 2 1 5 7 9 rows 2 1 0 2 0 1 -3 plain", "station 60 panes 1 0 60 rows 0 either"):
            for changed in changed_texts(text, words):
                at = wrong_word(changed, follows, whole)
                if at is not None:
                    self.assertEqual(raised(Station.read, changed), ("BadText", 0, at), changed)
                    continue
                told = raised(Station.read, changed)
                if told is None:
                    self.assertEqual(str(Station.read(changed)), changed)
                else:
                    self.assertIn(told[0], ("BadRow", "BadStation"), changed)

    def test_what_the_classes_raise(self):
        self.assertEqual(raised(Station.read, "station 2 panes 1 0 3 rows 1 1 0 2 plain"), ("BadStation", "pane", 0))
        self.assertEqual(raised(Station.read, "station 2 panes 1 0 3 rows 1 1 1 2 plain"), ("BadRow", 1))
        self.assertEqual(raised(Station.read, "station 2 panes 1 0 61 rows 1 1 1 2 plain"), ("BadText", 0, 5))
        self.assertEqual(raised(Station.read, "station 2 panes 1 0 3 rows 1 1 1 2 plane"), ("BadText", 0, 11))

    def test_no_string(self):
        for value in odd_values():
            told = wrong_word(value, follows, whole) if isinstance(value, str) else 0
            self.assertEqual(raised(Station.read, value), ("BadText", 0, told))


if __name__ == "__main__":
    unittest.main()
