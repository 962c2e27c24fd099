"""look_sighting and look_alike: papers that hold, and papers with one thing changed."""

import random
import unittest

from jumblepost.look_sightings import look_alike, look_sighting
from jumblepost.lying import zone_of
from jumblepost.sightings import Alike, Sighting, alike, sightings
from jumblepost.views import Sight
from tests import small_lines, stamping, wide_lines
from tests.helpers import odd_values, raised
from tests.small import painted_view, ways

MOST = 10 ** 60 - 1
LINE = wide_lines.sliding_line((3, 4), (0, 1), (1, 0), (3, (0, 1)), (3, (1, 3)))


def is_same(value, told):
    """Whether two values are equal and of the same kinds throughout."""
    return repr(value) == repr(told)


def is_right_sight(sight, sheet, station):
    """Whether any value is a Sight that holds, by the words of [14]."""
    if type(sight) is not Sight or type(sight.turned) is not bool or sight.turned not in ways(station):
        return False
    placings = [places for places in zone_of(sheet, station, sight.turned).placings() if is_same(places, sight.places)]
    return placings != [] and is_same(sight.view, painted_view(sheet, station, sight.places))


def holds(paper, line):
    """Whether any value is a Sighting that holds, by the words of [14]."""
    if type(paper) is not Sighting or type(paper.number) is not int or paper.number < 0:
        return False
    if repr(paper.standing) not in [repr(told) for told in stamping.standings(line.stamp, paper.number)]:
        return False
    if type(paper.sights) is not tuple or len(paper.sights) != len(line.stations):
        return False
    if not all([is_right_sight(sight, line.sheet, station) for sight, station in zip(paper.sights, line.stations)]):
        return False
    view = sum([sight.view for sight in paper.sights], ())
    return is_same(paper.look, small_lines.look_of(view, stamping.print_of(line.stamp, paper.standing)))


def changed_ints(told):
    """Tuples of integers with one of them changed, of another kind, left out or put in."""
    for at in range(len(told)):
        for value in (told[at] + 1, told[at] - 1, -told[at], bool(told[at]), str(told[at]), None, (told[at],)):
            if (type(value), value) != (int, told[at]):
                yield told[:at] + (value,) + told[at + 1:]
        yield told[:at] + told[at + 1:]
        yield told[:at] + told[at:at + 1] + told[at:]
    yield told + (0,)
    yield list(told)


def changed_sights(line, sights):
    """Tuples of sights with one thing of one of them changed."""
    for at, sight in enumerate(sights):
        found = [Sight(sight.view, sight.places, value) for value in (not sight.turned, int(sight.turned), None)]
        found += [Sight(sight.view, places, sight.turned) for places in changed_ints(sight.places)]
        for other in line.views:
            found.append(Sight(other[:len(sight.view)], sight.places, sight.turned))
        for pane in range(len(sight.view)):
            for cells in changed_ints(sight.view[pane]):
                found.append(Sight(sight.view[:pane] + (cells,) + sight.view[pane + 1:], sight.places, sight.turned))
        found += [sight.view, sight.places, None, Sight(list(sight.view), sight.places, sight.turned)]
        for station in line.stations:
            for turned in ways(station):
                found += [Sight(painted_view(line.sheet, station, told), told, turned) for told in list(zone_of(line.sheet, station, turned).placings())[:4]]
        for other in found:
            yield sights[:at] + (other,) + sights[at + 1:]
    yield sights + sights[-1:]
    yield sights[:-1]
    yield sights[::-1]
    yield list(sights)


def changed_sightings(line, paper):
    """Papers like a Sighting, but for one thing."""
    cycle = line.stamp.cycle
    number, standing, sights, look = paper.number, paper.standing, paper.sights, paper.look
    numbers = [number + 1, number - 1, number + cycle, number + 10 ** 70 * cycle, -cycle, number - 7 * cycle]
    for other in [*numbers, float(number), str(number), None, (number,), bool(number)]:
        yield Sighting(other, standing, sights, look)
    for other in changed_ints(standing):
        yield Sighting(number, other, sights, look)
    for other in changed_sights(line, sights):
        yield Sighting(number, standing, other, look)
    for at in range(len(look)):
        for text in (look[at] + "0", look[at][1:], look[at][::-1], look[at].upper(), None, list(look[at]), (look[at],)):
            yield Sighting(number, standing, sights, look[:at] + (text,) + look[at + 1:])
    for other in (list(look), look + ("",), look[:-1], look[::-1], "".join(look)):
        yield Sighting(number, standing, sights, other)


class TestSighting(unittest.TestCase):

    def test_papers_that_hold(self):
        for line in small_lines.small_lines(60, 101):
            for number in [*range(min(line.stamp.cycle, 6)), 5 * line.stamp.cycle + 1, MOST]:
                for paper in sightings(line, number):
                    self.assertIs(look_sighting(paper, line), True)
                    far = Sighting(number + 10 ** 90 * line.stamp.cycle, paper.standing, paper.sights, paper.look)
                    self.assertIs(look_sighting(far, line), True)

    def test_any_placing_will_do(self):
        for line in small_lines.small_lines(40, 102):
            standing = stamping.standings(line.stamp, 1)[-1]
            rows = [()]
            for station in line.stations:
                told = [Sight(painted_view(line.sheet, station, places), places, turned) for turned in ways(station) for places in zone_of(line.sheet, station, turned).placings()]
                rows = [row + (sight,) for row in rows for sight in told[:6] + told[-6:]]
            for sights in rows[::7]:
                view = sum([sight.view for sight in sights], ())
                paper = Sighting(1, standing, sights, small_lines.look_of(view, stamping.print_of(line.stamp, standing)))
                self.assertIs(look_sighting(paper, line), True)

    def test_one_thing_changed(self):
        right = wrong = 0
        for line in small_lines.small_lines(25, 103) + [LINE]:
            rand = random.Random(103)
            for number in rand.sample(range(line.stamp.cycle), 2):
                for paper in list(sightings(line, number))[:2]:
                    for other in changed_sightings(line, paper):
                        told = look_sighting(other, line)
                        self.assertIs(told, holds(other, line), vars(other))
                        right += told
                        wrong += not told
        self.assertGreater(right, 100)
        self.assertGreater(wrong, 3000)

    def test_any_values(self):
        paper = list(sightings(LINE, 3))[0]
        self.assertIs(look_sighting(paper, LINE), True)
        for value in odd_values():
            self.assertIs(look_sighting(value, LINE), False)
            for other in (
                    Sighting(value, paper.standing, paper.sights, paper.look), Sighting(3, value, paper.sights, paper.look),
                    Sighting(3, paper.standing, value, paper.look), Sighting(3, paper.standing, paper.sights, value),
                    Sighting(3, paper.standing, (value, paper.sights[1]), paper.look)):
                self.assertIs(look_sighting(other, LINE), holds(other, LINE))
            if type(value).__name__ != "Line":
                self.assertEqual(raised(look_sighting, paper, value), ("BadValue", "line"))
                self.assertEqual(raised(look_sighting, value, value), ("BadValue", "line"))


class TestAlike(unittest.TestCase):

    def test_papers_that_hold(self):
        rand = random.Random(104)
        equal = 0
        for line in small_lines.small_lines(40, 104):
            cycle = line.stamp.cycle
            for _ in range(12):
                one, other = rand.randrange(2 * cycle), rand.randrange(2 * cycle)
                paper = alike(line, one, other)
                if paper is not None:
                    self.assertIs(look_alike(paper, line), True)
                    self.assertIs(look_alike(Alike(paper.other, paper.one), line), True)
                for look in sightings(line, one):
                    self.assertIs(look_alike(Alike(look, look), line), True)
                    equal += 1
        self.assertGreater(equal, 500)

    def test_pairs_of_sightings(self):
        """Any two sightings are an Alike just if their looks are equal."""
        for line in small_lines.small_lines(25, 105):
            papers = [paper for number in range(min(line.stamp.cycle, 5)) for paper in sightings(line, number)]
            for one in papers[:12]:
                for other in papers[:12]:
                    self.assertIs(look_alike(Alike(one, other), line), one.look == other.look)

    def test_one_thing_changed(self):
        right = wrong = 0
        for line in small_lines.small_lines(10, 106) + [LINE]:
            paper = alike(line, 1, 1 + line.stamp.cycle)
            for other in changed_sightings(line, paper.one):
                told = holds(other, line) and other.look == paper.other.look
                self.assertIs(look_alike(Alike(other, paper.other), line), told)
                self.assertIs(look_alike(Alike(paper.other, other), line), told)
                right += told
                wrong += not told
        self.assertGreater(right, 20)
        self.assertGreater(wrong, 500)

    def test_any_values(self):
        paper = alike(LINE, 2, 2 + LINE.stamp.cycle)
        self.assertIs(look_alike(paper, line=LINE), True)
        self.assertIs(look_sighting(paper=paper.one, line=LINE), True)
        self.assertIs(look_sighting(paper, LINE), False)
        self.assertIs(look_alike(paper.one, LINE), False)
        for value in odd_values():
            for other in (value, Alike(value, paper.other), Alike(paper.one, value), (paper.one, paper.other)):
                self.assertIs(look_alike(other, LINE), False)
            if type(value).__name__ != "Line":
                self.assertEqual(raised(look_alike, paper, value), ("BadValue", "line"))
                self.assertEqual(raised(look_alike, value, value), ("BadValue", "line"))

    def test_other_lines(self):
        """A paper of one line need not hold on another one."""
        near = wide_lines.seen_line(3, 4)
        far = wide_lines.seen_line(4, 3)
        paper = alike(near, 3, 15)
        self.assertIs(look_alike(paper, near), True)
        self.assertIs(look_alike(paper, far), False)


if __name__ == "__main__":
    unittest.main()
