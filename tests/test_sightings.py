"""Sightings: each one holds by the words of the document; alike with the least look of both."""

import random
import unittest

from jumblepost.lines import Line
from jumblepost.looks import common_looks, looks
from jumblepost.lying import zone_of
from jumblepost.sheets import Cell, Panel, Sheet
from jumblepost.sightings import Alike, Sighting, alike, sighting, sightings
from jumblepost.stamps import Stamp
from jumblepost.stations import Station
from jumblepost.views import Sight
from tests import small_lines, stamping
from tests.helpers import odd_values, raised
from tests.small import painted_view, ways

MOST = 10 ** 60 - 1
PAIR = Sheet((Panel.firm(2),), (0,), (Cell(0, 0, 0), Cell(0, 0, 1)))
LINE = Line(PAIR, Stamp.digits(3, 3), Station(3, ((0, 2),)))


class TestSightings(unittest.TestCase):

    def check_holds(self, line, number, look, paper):
        """A sighting of this number with this look, by the words of [14]."""
        self.assertIs(type(paper), Sighting)
        self.assertEqual((paper.number, paper.look), (number, look))
        self.assertIn(paper.standing, stamping.standings(line.stamp, number))
        self.assertIs(type(paper.sights), tuple)
        self.assertEqual(len(paper.sights), len(line.stations))
        view = ()
        for sight, station in zip(paper.sights, line.stations):
            self.assertIs(type(sight), Sight)
            self.assertIn(sight.turned, ways(station))
            self.assertIn(sight.places, list(zone_of(line.sheet, station, sight.turned).placings()))
            self.assertEqual(sight.view, painted_view(line.sheet, station, sight.places))
            view += sight.view
        text = stamping.print_of(line.stamp, paper.standing)
        self.assertEqual(small_lines.look_of(view, text), look)

    def test_each_look_has_a_sighting(self):
        for line in small_lines.small_lines(40, 91):
            cycle = line.stamp.cycle
            for number in [*range(min(cycle, 10)), 3 * cycle + 1, MOST]:
                told = small_lines.all_looks(line, number)
                papers = list(sightings(line, number))
                self.assertEqual([paper.look for paper in papers], told)
                for look, paper in zip(told, papers):
                    self.check_holds(line, number, look, paper)
                    self.check_holds(line, number, look, sighting(line, number, look))

    def test_looks_that_are_not_shown(self):
        rand = random.Random(92)
        for line in small_lines.small_lines(30, 92):
            for number in range(min(line.stamp.cycle, 8)):
                told = small_lines.all_looks(line, number)
                others = [tuple(rand.choice(("", "a", "b1", "a.")) for _ in told[0]) for _ in range(5)]
                for look in others + [list(told[0]), told[0] + ("",)]:
                    self.assertEqual(sighting(line, number, look) is None, look not in told)

    def test_alike(self):
        rand = random.Random(93)
        met = 0
        for line in small_lines.small_lines(40, 93):
            cycle = line.stamp.cycle
            for _ in range(15):
                one, other = rand.randrange(cycle), rand.randrange(cycle) + cycle * rand.choice((0, 2, 10 ** 40))
                both = [look for look in small_lines.all_looks(line, one) if look in small_lines.all_looks(line, other)]
                for first, second in ((one, other), (other, one)):
                    paper = alike(line, first, second)
                    if not both:
                        self.assertIsNone(paper)
                        continue
                    met += 1
                    self.assertIs(type(paper), Alike)
                    self.check_holds(line, first, both[0], paper.one)
                    self.check_holds(line, second, both[0], paper.other)
                    self.assertEqual(paper.distance, second - first)
        self.assertGreater(met, 100)

    def test_the_same_again(self):
        for number in range(9):
            self.assertEqual(list(sightings(LINE, number)), list(sightings(LINE, number)))
            self.assertEqual([paper.look for paper in sightings(LINE, number)], list(looks(LINE, number)))
        self.assertEqual(alike(LINE, 3, 4), alike(LINE, 3, 4))
        self.assertEqual(alike(LINE, 3, 4).one.look, common_looks(LINE, 3, 4)[0])


class TestRefused(unittest.TestCase):

    def test_any_values(self):
        for value in odd_values():
            if not isinstance(value, Line):
                self.assertEqual(raised(sighting, value, value, value), ("BadValue", "line"))
                self.assertEqual(raised(next, sightings(value, value)), ("BadValue", "line"))
                self.assertEqual(raised(alike, value, value, value), ("BadValue", "line"))
            self.assertEqual(raised(sighting, LINE, value, value), ("BadValue", "number"))
            self.assertEqual(raised(next, sightings(LINE, value)), ("BadValue", "number"))
            self.assertEqual(raised(alike, LINE, value, value), ("BadValue", "one"))
            self.assertEqual(raised(alike, LINE, 1, value), ("BadValue", "other"))
            self.assertIsNone(sighting(LINE, 1, value))

    def test_names(self):
        self.assertEqual(sighting(look=("1",), number=4, line=LINE).standing, (1, 1))
        self.assertEqual(len(list(sightings(number=4, line=LINE))), 2)
        self.assertEqual(alike(other=5, one=4, line=LINE).distance, 1)


class TestPapers(unittest.TestCase):

    def test_of_any_values(self):
        for value in odd_values():
            paper = Sighting(value, 1, 2, 3)
            self.assertEqual((paper.number, paper.standing, paper.sights, paper.look), (value, 1, 2, 3))
            self.assertEqual(paper, Sighting(look=3, sights=2, standing=1, number=value))
            for other in (Sighting((value, 0), 1, 2, 3), Sighting(value, 0, 2, 3), Sighting(value, 1, 0, 3), Sighting(value, 1, 2, 0), value):
                self.assertNotEqual(paper, other)
            pair = Alike(value, 1)
            self.assertEqual((pair.one, pair.other, pair.distance), (value, 1, None))
            self.assertEqual(pair, Alike(other=1, one=value))
            self.assertNotEqual(pair, Alike(value, 2))
            self.assertNotEqual(pair, Alike((value, 0), 1))
            self.assertTrue(paper and pair)

    def test_distance(self):
        def made(number):
            return Sighting(number, None, None, None)
        self.assertEqual(Alike(made(3), made(10)).distance, 7)
        self.assertEqual(Alike(made(10 ** 70), made(-1)).distance, -1 - 10 ** 70)
        self.assertEqual(Alike(made(4), made(4)).distance, 0)
        for value in odd_values():
            if type(value) is not int:
                self.assertIsNone(Alike(made(value), made(1)).distance)
                self.assertIsNone(Alike(made(1), made(value)).distance)
                self.assertIsNone(Alike(made(1), value).distance if not isinstance(value, Sighting) else None)
        self.assertIsNone(Alike(made(True), made(1)).distance)


if __name__ == "__main__":
    unittest.main()
