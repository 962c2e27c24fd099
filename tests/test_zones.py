"""Zones: small ones against all tuples of places, great ones, rings, chains, and what is refused."""

import itertools
import random
import time
import unittest

from jumblepost.rows import Row
from jumblepost.zones import Chain, Ring, Zone
from tests.helpers import odd_values, raised


def walls(points, width):
    """The walls of a zone, as the document writes them."""
    return [row for p in range(1, points) for row in (Row(p, 0, width), Row(0, p, 0))]


def all_placings(points, width, rows):
    """All placings, by going through all tuples of places."""
    tuples = itertools.product([0], *[range(width + 1) for _ in range(points - 1)])
    return [places for places in tuples if all(row.holds(places) for row in rows)]


def small_zones(many, seed):
    """Pseudo-random small zones: points, width, rows."""
    rand = random.Random(seed)
    for _ in range(many):
        points, width = rand.randint(1, 4), rand.randint(0, 4)
        rows = []
        for _ in range(rand.randint(0, 5) if points > 1 else 0):
            one, other = rand.sample(range(points), 2)
            rows.append(Row(one, other, rand.randint(-width - 1, width + 1)))
        yield points, width, rows


def great_rows(seed, shut=False):
    """As many rows as may be given, for 12 points and the greatest width."""
    rand = random.Random(seed)
    places = [0] + [rand.randint(0, 999999) for _ in range(11)]
    rows = []
    while len(rows) < 200:
        one, other = rand.sample(range(12), 2)
        most = places[one] - places[other] + rand.choice((0, 1, 5, 1000, 100000))
        if -10 ** 6 <= most < 10 ** 6:
            rows.append(Row(one, other, most))
    if shut:
        rows[150:152] = [Row(3, 7, -5), Row(7, 3, 4)]
    return rows, tuple(places)


class TestSmallZones(unittest.TestCase):

    def check_zone(self, zone, found):
        points = range(zone.points)
        self.assertEqual(list(zone.placings()), found)
        self.assertIs(bool(zone), bool(found))
        for one, other in itertools.product(points, points):
            if found:
                gap = max(places[one] - places[other] for places in found)
                self.assertEqual(zone.gap(one, other), gap)
            else:
                self.assertEqual(raised(zone.gap, one, other), ("NoPlacing", 0))
            for most in range(-6, 7) if one != other else ():
                row = Row(one, other, most)
                self.assertIs(row in zone, all(row.holds(places) for places in found))
        if found:
            self.assertEqual(zone.lowest(), tuple(min(column) for column in zip(*found)))
            self.assertEqual(zone.highest(), tuple(max(column) for column in zip(*found)))
        else:
            self.assertEqual(raised(zone.lowest), ("NoPlacing", 0))
            self.assertEqual(raised(zone.highest), ("NoPlacing", 0))

    def check_linked(self, rows, known):
        self.assertIsInstance(rows, tuple)
        for row in rows:
            self.assertIn(row, known)
        for row, behind in zip(rows, rows[1:]):
            self.assertEqual(row.other, behind.one)
        ones = [row.one for row in rows]
        self.assertEqual(len(ones), len(set(ones)))

    def check_proofs(self, zone, known):
        if not zone:
            ring = zone.ring()
            self.assertIs(type(ring), Ring)
            self.check_linked(ring.rows, known)
            self.assertEqual(ring.rows[0].one, ring.rows[-1].other)
            self.assertLess(sum(row.most for row in ring.rows), 0)
        else:
            self.assertIsNone(zone.ring())
        for one, other in itertools.permutations(range(zone.points), 2):
            if zone:
                chain = zone.chain(one, other)
                self.assertIs(type(chain), Chain)
                self.check_linked(chain.rows, known)
                self.assertEqual((chain.rows[0].one, chain.rows[-1].other), (one, other))
                self.assertEqual(sum(row.most for row in chain.rows), zone.gap(one, other))
                self.assertEqual(zone.chain(one, other), chain)
            else:
                self.assertEqual(raised(zone.chain, one, other), ("NoPlacing", 0))

    def test_against_all_tuples(self):
        empty = 0
        for points, width, rows in small_zones(500, 1):
            zone = Zone(points, width, rows)
            self.check_zone(zone, all_placings(points, width, rows))
            self.check_proofs(zone, rows + walls(points, width))
            empty += not zone
        self.assertTrue(100 < empty < 400)

    def test_equal_if_the_placings_are(self):
        zones = [(zone, all_placings(*zone)) for zone in small_zones(120, 2)]
        for (points, width, rows), found in zones:
            for (other_points, other_width, other_rows), other_found in zones:
                same = points == other_points and width == other_width and found == other_found
                self.assertIs(Zone(points, width, rows) == Zone(other_points, other_width, other_rows), same)
        for value in odd_values():
            self.assertIs(Zone(2, 3) == value, isinstance(value, Zone))
        self.assertIs(Zone(2, 3) == Zone(2, 4, [Row(1, 0, 3)]), False)
        self.assertIs(Zone(2, 3, [Row(1, 0, -1)]) == Zone(2, 4, [Row(1, 0, -1)]), False)

    def test_and(self):
        for points, width, rows in small_zones(150, 3):
            if points == 1:
                continue
            zone = Zone(points, width, rows[:2])
            both = zone & Zone(points, width, rows[1:])
            self.check_zone(both, all_placings(points, width, rows))
            self.assertEqual(both, Zone(points, width, rows))
            more = zone & Row(1, 0, 2)
            self.check_zone(more, all_placings(points, width, rows[:2] + [Row(1, 0, 2)]))
            self.assertEqual(zone.rows, Zone(points, width, rows[:2]).rows)

    def test_in_takes_any_value(self):
        for zone in (Zone(3, 5), Zone(3, 5, [Row(1, 2, -6)])):
            for value in odd_values():
                if not isinstance(value, Row):
                    self.assertIs(value in zone, False)
            self.assertIs(Row(1, 3, 100) in zone, False)
            self.assertIs(Row(3, 1, 100) in zone, False)
        self.assertIs(Row(2, 1, -10 ** 6) in Zone(3, 5, [Row(1, 2, -6)]), True)
        self.assertIs(Row(1, 0, 5) in Zone(3, 5), True)
        self.assertIs(Row(1, 0, 4) in Zone(3, 5), False)

    def test_placings_one_by_one(self):
        rows = [Row(1, 2, -1)]
        steps = Zone(3, 2, rows).placings()
        self.assertEqual([next(steps), next(steps), next(steps)], [(0, 0, 1), (0, 0, 2), (0, 1, 2)])
        self.assertIsNone(next(steps, None))
        self.assertEqual(list(Zone(1, 5).placings()), [(0,)])
        self.assertEqual(list(Zone(3, 0).placings()), [(0, 0, 0)])


class TestRows(unittest.TestCase):

    def test_order_and_repeats(self):
        rows = [Row(1, 0, 3), Row(2, 1, 4), Row(1, 0, 3), Row(1, 0, 2), Row(2, 1, 4)]
        for told in (rows, tuple(rows)):
            zone = Zone(3, 10, told)
            self.assertEqual(zone.rows, (rows[0], rows[1], rows[3]))
            self.assertIsInstance(zone.rows, tuple)
        self.assertEqual(Zone(3, 10).rows, ())
        both = Zone(3, 10, rows[1:2]) & Zone(3, 10, rows)
        self.assertEqual(both.rows, (rows[1], rows[0], rows[3]))
        self.assertEqual((both & rows[0]).rows, both.rows)
        self.assertEqual((both & Row(0, 1, 0)).rows, both.rows + (Row(0, 1, 0),))

    def test_later_changes_do_nothing(self):
        rows = [Row(1, 0, 3)]
        zone = Zone(2, 10, rows)
        rows.append(Row(1, 0, 1))
        self.assertEqual((zone.rows, zone.gap(1, 0)), ((Row(1, 0, 3),), 3))

    def test_attributes_and_names(self):
        zone = Zone(rows=[Row(1, 0, 3)], width=7, points=2)
        self.assertEqual((zone.points, zone.width, zone.rows), (2, 7, (Row(1, 0, 3),)))
        self.assertEqual(zone.gap(other=0, one=1), 3)
        self.assertEqual(zone.chain(other=0, one=1).rows, (Row(1, 0, 3),))

    def test_walls_can_be_given(self):
        told = walls(4, 6)
        self.assertEqual(Zone(4, 6, told), Zone(4, 6))
        self.assertEqual(Zone(4, 6, told).rows, tuple(told))

    def test_more_rows_than_one_zone_is_given(self):
        first = Zone(3, 500, [Row(1, 0, most) for most in range(200, 400)])
        second = Zone(3, 500, [Row(2, 0, most) for most in range(100, 300)])
        both = first & second
        self.assertEqual((len(both.rows), both.highest()), (400, (0, 200, 100)))


class TestRefused(unittest.TestCase):

    def test_bounds(self):
        for points in (1, 2, 12):
            for width in (0, 1, 999999):
                zone = Zone(points, width)
                self.assertEqual(zone.highest(), (0,) + (width,) * (points - 1))

    def test_first_wrong_part(self):
        for value in [0, 13, *odd_values()]:
            self.assertEqual(raised(Zone, value, 5), ("BadValue", "points"))
            self.assertEqual(raised(Zone, value, value, value), ("BadValue", "points"))
        for value in [10 ** 6, *odd_values()]:
            self.assertEqual(raised(Zone, 2, value), ("BadValue", "width"))
            self.assertEqual(raised(Zone, 2, value, None), ("BadValue", "width"))
        for value in odd_values():
            if not isinstance(value, (list, tuple)):
                self.assertEqual(raised(Zone, 2, 5, value), ("BadValue", "rows"))
            else:
                self.assertEqual(raised(Zone, 2, 5, value), ("BadRow", 0) if value else None)

    def test_rows_that_are_none(self):
        good = Row(1, 0, 4)
        for value in [Row(2, 0, 4), Row(0, 2, 4), *odd_values()]:
            told = None if value == Row(0, 1, 2) else ("BadRow", 2)
            self.assertEqual(raised(Zone, 2, 5, [good, good, value, None]), told or ("BadRow", 3))
        self.assertEqual(raised(Zone, 1, 5, (good,)), ("BadRow", 0))

    def test_and_refuses(self):
        zone = Zone(2, 5, [Row(1, 0, 4)])
        wrong = [Zone(2, 6), Zone(3, 5), Row(2, 0, 4), Row(0, 11, 4), (Row(1, 0, 4),), *odd_values()]
        for value in wrong:
            if value != Row(0, 1, 2):
                self.assertEqual(raised(lambda: zone & value), ("BadValue", "other"))

    def test_points_of_gap_and_chain(self):
        for zone in (Zone(3, 5), Zone(3, 5, [Row(1, 2, -6)])):
            for value in [3, *odd_values()]:
                self.assertEqual(raised(zone.gap, value, 1), ("BadValue", "one"))
                self.assertEqual(raised(zone.gap, value, value), ("BadValue", "one"))
                self.assertEqual(raised(zone.gap, 1, value), ("BadValue", "other"))
                self.assertEqual(raised(zone.chain, value, 1), ("BadValue", "one"))
                self.assertEqual(raised(zone.chain, value, value), ("BadValue", "one"))
                self.assertEqual(raised(zone.chain, 1, value), ("BadValue", "other"))
            for point in range(3):
                self.assertEqual(raised(zone.chain, point, point), ("BadValue", "other"))
        self.assertEqual(Zone(3, 5).gap(2, 2), 0)
        self.assertEqual(raised(Zone(3, 5, [Row(1, 2, -6)]).gap, 2, 2), ("NoPlacing", 0))


class TestGreatZones(unittest.TestCase):

    def test_at_once(self):
        begin = time.monotonic()
        for seed in range(5):
            rows, inside = great_rows(seed)
            zone = Zone(12, 999999, rows)
            self.assertTrue(zone)
            known = list(zone.rows) + walls(12, 999999)
            for one, other in itertools.permutations(range(12), 2):
                chain = zone.chain(one, other).rows
                self.assertEqual(sum(row.most for row in chain), zone.gap(one, other))
                self.assertLessEqual(inside[one] - inside[other], zone.gap(one, other))
            for places in (zone.lowest(), zone.highest(), *itertools.islice(zone.placings(), 50)):
                self.assertTrue(all(row.holds(places) for row in known))
            first = list(itertools.islice(zone.placings(), 50))
            self.assertEqual((first, first[0]), (sorted(set(first)), tuple(min(first))))
            self.assertEqual(zone, zone & zone)
        self.assertLess(time.monotonic() - begin, 20)

    def test_rings_at_once(self):
        begin = time.monotonic()
        for seed in range(5):
            rows, _ = great_rows(seed, True)
            zone = Zone(12, 999999, rows)
            ring = zone.ring().rows
            known = rows + walls(12, 999999)
            self.assertTrue(all(row in known for row in ring))
            self.assertLess(sum(row.most for row in ring), 0)
            self.assertEqual([row.other for row in ring], [row.one for row in ring[1:] + ring[:1]])
            self.assertEqual(len({row.one for row in ring}), len(ring))
            self.assertEqual(list(zone.placings()), [])
        self.assertLess(time.monotonic() - begin, 10)

    def test_long_ring(self):
        rows = [Row(p, p + 1, -90000) for p in range(1, 11)] + [Row(11, 1, 899999)]
        zone = Zone(12, 999999, rows)
        self.assertEqual(sum(row.most for row in zone.ring().rows), -1)
        loose = Zone(12, 999999, rows[:-1])
        self.assertEqual(next(loose.placings()), (0,) + tuple(90000 * k for k in range(11)))
        self.assertEqual(loose.gap(1, 0), 99999)
        self.assertEqual(len(loose.chain(1, 0).rows), 11)

    def test_placings_of_a_great_zone_come_first(self):
        steps = Zone(12, 999999).placings()
        self.assertEqual(next(steps), (0,) * 12)
        self.assertEqual(next(steps), (0,) * 11 + (1,))


class TestPapers(unittest.TestCase):

    def test_papers_of_any_values(self):
        for made, other in ((Ring, Chain), (Chain, Ring)):
            for value in odd_values():
                paper = made(value)
                self.assertIs(paper.rows, value)
                self.assertEqual(paper, made(rows=value))
                self.assertNotEqual(paper, other(value))
                self.assertNotEqual(paper, made((value, 5)))
                self.assertNotEqual(paper, value)
                self.assertTrue(paper)
            self.assertEqual(made((1, 0)), made((True, False)))
            self.assertNotEqual(made((1,)), made([1]))


if __name__ == "__main__":
    unittest.main()
