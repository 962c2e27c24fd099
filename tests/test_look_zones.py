"""Looks at zones: what is told, and what is told with one thing changed."""

import itertools
import unittest

from jumblepost.look_zones import look_chain, look_placing, look_ring
from jumblepost.rows import Row
from jumblepost.zones import Chain, Ring, Zone
from tests.helpers import odd_values, raised
from tests.test_zones import all_placings, great_rows, small_zones, walls


def is_ring(rows, known):
    """Whether rows of these form a ring with a sum below 0, by the words of the document."""
    if not rows or any(row not in known for row in rows):
        return False
    turned = rows[1:] + rows[:1]
    return all(a.other == b.one for a, b in zip(rows, turned)) and sum(row.most for row in rows) < 0


def is_chain(rows, known, row):
    """Whether rows of these form a chain that shows a row, by the words of the document."""
    if not rows or any(told not in known for told in rows):
        return False
    if any(a.other != b.one for a, b in zip(rows, rows[1:])):
        return False
    ends = rows[0].one == row.one and rows[-1].other == row.other
    return ends and sum(told.most for told in rows) <= row.most


def changes(rows, known):
    """Tuples of rows with one thing changed."""
    told = [rows + rows, rows[::-1], rows[1:] + rows[:1], (), rows[:1] * 2]
    for at in range(len(rows)):
        told.append(rows[:at] + rows[at + 1:])
        told.append(rows[:at] + (rows[at],) + rows[at:])
        for step in (-1, 1):
            told.append(rows[:at] + (Row(rows[at].one, rows[at].other, rows[at].most + step),) + rows[at + 1:])
        told.append(rows[:at] + (~rows[at],) + rows[at + 1:])
        for row in known[:6]:
            told.append(rows[:at] + (row,) + rows[at:])
            told.append(rows[:at] + (row,) + rows[at + 1:])
    return told


class TestPlacing(unittest.TestCase):

    def test_against_all_tuples(self):
        for points, width, rows in small_zones(80, 11):
            zone = Zone(points, width, rows)
            found = all_placings(points, width, rows)
            for places in itertools.product(range(-1, width + 2), repeat=points):
                self.assertIs(look_placing(places, zone), places in found)

    def test_any_value(self):
        zone = Zone(3, 5, [Row(1, 2, 0)])
        self.assertIs(look_placing((0, 1, 2), zone), True)
        self.assertIs(look_placing(zone=zone, places=(0, 1, 2)), True)
        wrong = [[0, 1, 2], (0, 1), (0, 1, 2, 3), (0, True, 2), (False, 1, 2), (0, 1, None), (0, 1, "2"), (0, 10 ** 60, 2)]
        for value in wrong + odd_values():
            self.assertIs(look_placing(value, zone), False)
        for value in odd_values():
            if not isinstance(value, Zone):
                self.assertEqual(raised(look_placing, value, value), ("BadValue", "zone"))

    def test_great_zone(self):
        rows, places = great_rows(3)
        zone = Zone(12, 999999, rows)
        self.assertIs(look_placing(places, zone), True)
        self.assertIs(look_placing(zone.lowest(), zone), True)
        low = zone.lowest()
        self.assertIs(look_placing((0, low[1] - 1) + low[2:], zone), False)


class TestRing(unittest.TestCase):

    def test_told_and_changed(self):
        seen = 0
        for points, width, rows in small_zones(300, 12):
            zone = Zone(points, width, rows)
            if zone:
                continue
            seen += 1
            known = rows + walls(points, width)
            ring = zone.ring()
            self.assertIs(look_ring(ring, zone), True)
            for told in changes(ring.rows, known):
                self.assertIs(look_ring(Ring(told), zone), is_ring(told, known))
            self.assertIs(look_ring(Ring(list(ring.rows)), zone), False)
            self.assertIs(look_ring(Chain(ring.rows), zone), False)
            self.assertIs(look_ring(ring.rows, zone), False)
            self.assertIs(look_ring(Ring((*ring.rows, None)), zone), False)
            self.assertIs(look_ring(Ring(ring.rows + ring.rows), zone), True)
        self.assertGreater(seen, 50)

    def test_turned_ring(self):
        rows = (Row(1, 2, -3), Row(2, 3, 1), Row(3, 1, 1))
        zone = Zone(4, 9, rows)
        for at in range(3):
            self.assertIs(look_ring(Ring(rows[at:] + rows[:at]), zone), True)
        self.assertIs(look_ring(Ring(rows[:2]), zone), False)
        self.assertIs(look_ring(Ring((rows[0], rows[2], rows[1])), zone), False)

    def test_walls_as_rows(self):
        zone = Zone(2, 5, [Row(1, 0, -1)])
        self.assertIs(look_ring(Ring((Row(0, 1, 0), Row(1, 0, -1))), zone), True)
        self.assertIs(look_ring(Ring((Row(0, 1, 1), Row(1, 0, -1))), zone), False)
        zone = Zone(2, 5, [Row(0, 1, -6)])
        self.assertIs(look_ring(Ring((Row(0, 1, -6), Row(1, 0, 5))), zone), True)
        self.assertIs(look_ring(Ring((Row(0, 1, -6), Row(1, 0, 4))), zone), False)

    def test_any_value(self):
        zone = Zone(2, 5, [Row(1, 0, -1)])
        for value in odd_values():
            self.assertIs(look_ring(value, zone), False)
            self.assertIs(look_ring(Ring(value), zone), False)
            self.assertIs(look_ring(Ring((value,)), zone), False)
            self.assertIs(look_ring(Ring((Row(0, 1, 0), value)), zone), False)
            if not isinstance(value, Zone):
                self.assertEqual(raised(look_ring, zone.ring(), value), ("BadValue", "zone"))
        self.assertIs(look_ring(None, Zone(2, 5)), False)
        self.assertIs(look_ring(zone=zone, ring=zone.ring()), True)


class TestChain(unittest.TestCase):

    def test_told_and_changed(self):
        for points, width, rows in small_zones(120, 13):
            zone = Zone(points, width, rows)
            if not zone:
                continue
            known = rows + walls(points, width)
            for one, other in itertools.permutations(range(points), 2):
                chain = zone.chain(one, other)
                for step in (-1, 0, 1):
                    row = Row(one, other, zone.gap(one, other) + step)
                    self.assertIs(look_chain(chain, zone, row), step >= 0)
                    for told in changes(chain.rows, known):
                        self.assertIs(look_chain(Chain(told), zone, row), is_chain(told, known, row))
                self.assertIs(look_chain(Chain(list(chain.rows)), zone, row), False)
                self.assertIs(look_chain(Ring(chain.rows), zone, row), False)
                self.assertIs(look_chain(chain.rows, zone, row), False)
                self.assertIs(look_chain(chain, zone, Row(other, one, 100)), False)

    def test_a_point_twice(self):
        zone = Zone(3, 5, [Row(1, 2, 1), Row(2, 1, 0)])
        rows = (Row(1, 2, 1), Row(2, 1, 0), Row(1, 2, 1))
        self.assertIs(look_chain(Chain(rows), zone, Row(1, 2, 2)), True)
        self.assertIs(look_chain(Chain(rows), zone, Row(1, 2, 1)), False)

    def test_any_value(self):
        zone = Zone(2, 5)
        row = Row(1, 0, 5)
        for value in odd_values():
            self.assertIs(look_chain(value, zone, row), False)
            self.assertIs(look_chain(Chain(value), zone, row), False)
            self.assertIs(look_chain(Chain((value,)), zone, row), False)
            self.assertIs(look_chain(Chain((row, value)), zone, row), False)
            if not isinstance(value, Zone):
                self.assertEqual(raised(look_chain, value, value, value), ("BadValue", "zone"))
            if not isinstance(value, Row):
                self.assertEqual(raised(look_chain, value, zone, value), ("BadValue", "row"))
        self.assertIs(look_chain(Chain((Row(1, 0, 5),)), zone, row), True)
        self.assertIs(look_chain(row=row, zone=zone, chain=Chain((Row(1, 0, 5),))), True)
        self.assertIs(look_chain(Chain((Row(1, 0, 4),)), zone, row), False)
        self.assertIs(look_chain(Chain((Row(1, 0, 5),)), zone, Row(3, 0, 5)), False)
        self.assertIs(look_chain(Chain((Row(3, 0, 5),)), zone, Row(3, 0, 5)), False)


if __name__ == "__main__":
    unittest.main()
