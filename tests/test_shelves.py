"""Shelves: rows that are right and wrong, selections in their order, and the cheapest choices."""

import itertools
import random
import unittest

from jumblepost.errors import PostError
from jumblepost.forced import Forced, decide
from jumblepost.jumbles import Jumble
from jumblepost.lines import Line
from jumblepost.look_designs import look_cheapest
from jumblepost.rows import Row
from jumblepost.sheets import Cell, Panel, Sheet
from jumblepost.shelves import Cheapest, Shelf, cheapest
from jumblepost.stamps import Stamp
from jumblepost.stations import Station
from jumblepost.views import views
from tests import wide_lines
from tests.helpers import odd_values, raised
from tests.test_least import BOXES, CROWDED

THREES = Stamp.digits(3, 3, 3)
SMALL = Stamp.digits(2, 2, 2)
LEFT, MID, RIGHT, WIDE = Station(8, ((0, 2),)), Station(8, ((3, 5),)), Station(8, ((6, 8),)), Station(10, ((2, 10),))
ROWS = (("digits", THREES, 5), ("wide", WIDE, 4), ("right", RIGHT, 1), ("mid", MID, 1))
SHELF = Shelf(BOXES, *ROWS)
# No placing: the envelope is too narrow, or a row holds nowhere.
NARROW = Station(7, ((0, 2),))
SHUT = Station(8, ((0, 2),), [Row(1, 0, -1)])
JUMBLES = [Jumble(), Jumble(1, 1), Jumble(1, 2), Jumble(2, 2), Jumble(4, 4), Jumble(9, 9), Jumble(1, 1, 1), Jumble(1, 1, 0, True), Jumble(1, 1, 0, False, 2), Jumble(1, 1, 0, False, 1)]


def wrong_row(sheet, rows):
    """The error that is due for the rows of a shelf, None if there is none."""
    if len(rows) > 6:
        return "TooMany", "rows"
    for at, row in enumerate(rows):
        if type(row) is not tuple or len(row) != 3:
            return "BadShelf", "row", at
        name, thing, price = row
        if type(name) is not str or not 1 <= len(name) <= 8 or not all("a" <= sign <= "z" for sign in name) or name in [told[0] for told in rows[:at]]:
            return "BadShelf", "name", at
        if type(thing) not in (Stamp, Station):
            return "BadShelf", "thing", at
        if type(price) is not int or not 0 <= price <= 10 ** 12:
            return "BadShelf", "price", at
        if type(thing) is Stamp:
            if thing.signs != len(sheet.cells):
                return "BadShelf", "cells", at
            continue
        error = raised(views, sheet, thing)
        if error is not None:
            return error
        if not views(sheet, thing):
            return "BadShelf", "placing", at
    return None


def all_selections(rows):
    """All selections, the better ones first, each with its price."""
    prices = {name: price for name, _, price in rows}
    stamps = [name for name, thing, _ in rows if type(thing) is Stamp]
    stations = sorted(name for name, thing, _ in rows if type(thing) is Station)
    found = [(stamp, *few) for stamp in stamps for many in (1, 2, 3) for few in itertools.combinations(stations, many)]
    return sorted([(sum(prices[name] for name in names), len(names), names) for names in found])


def within(names, others):
    return names[0] == others[0] and set(names[1:]) <= set(others[1:])


def random_rows(rand, many):
    """Rows of a shelf: stamps and stations of BOXES, some at equal prices."""
    names = rand.sample(["a", "b", "c", "ab", "zz", "stamp", "longname", "m", "x"], many)
    things = [THREES, SMALL, Stamp.digits(4, 3, 2), LEFT, MID, RIGHT, WIDE, Station(9, ((0, 4),)), Station(8, ((0, 2), (6, 8))), Station(12, ((2, 8),))]
    picked = rand.sample(things[:3], rand.choice((1, 1, 2))) + rand.sample(things[3:], many)
    return [(name, thing, rand.choice((0, 1, 1, 2, 3, 10 ** 12))) for name, thing in zip(names, picked)]


class TestRows(unittest.TestCase):

    def check(self, rows, sheet=BOXES):
        error = wrong_row(sheet, rows)
        self.assertEqual(raised(Shelf, sheet, *rows), error, rows)
        return error

    def test_wrong_in_one_way_or_two(self):
        parts = [
            ["fresh", "digits", "Fresh", "", "ninesigns", "a1", "a b", "eightsig", None, 3, "\n", "a"],
            [LEFT, SMALL, Stamp.digits(3, 3), NARROW, SHUT, Station(8, ((0, 2),), [Row(5, 0, 1)]), None, "digits", BOXES],
            [0, 10 ** 12, -1, 10 ** 12 + 1, True, None, "3", 2.0]]
        told = set()
        for row in itertools.product(*parts):
            for at in (0, 2, 4):
                told.add(self.check([*ROWS[:at], row, *ROWS[at:]]))
        self.assertEqual({error[:2] for error in told if error and error[0] == "BadShelf"}, {("BadShelf", what) for what in ("name", "thing", "price", "cells", "placing")})
        self.assertIn(("BadStation", "row", 0), told)
        self.assertIn(None, told)

    def test_odd_rows(self):
        for value in odd_values():
            for rows in ([value], [*ROWS, value], [("a", value, 1)], [("a", LEFT, value)], [(value, LEFT, 1)], [("a", LEFT, 1, value)], [["a", LEFT, 1]], [ROWS]):
                self.check(rows)
            if not isinstance(value, Sheet):
                self.assertEqual(raised(Shelf, value, value), ("BadValue", "sheet"))
                self.assertEqual(raised(Shelf, value), ("BadValue", "sheet"))

    def test_a_row_too_many(self):
        rows = [(name, LEFT, 1) for name in "abcdefg"]
        self.check(rows[:6])
        self.assertEqual(self.check(rows), ("TooMany", "rows"))
        self.assertEqual(self.check([None] * 7), ("TooMany", "rows"))
        self.assertEqual(self.check([*rows[:5], None]), ("BadShelf", "row", 5))
        self.assertEqual(len(Shelf(BOXES)), 0)
        self.assertEqual(list(Shelf(BOXES).selections()), [])

    def test_what_views_raises(self):
        wide = Sheet((Panel(4, 40), Panel(4, 40), Panel(4, 40)), (1, 0, 2), [Cell(0, 0, 0), Cell(1, 1, 0), Cell(0, 1, 0), Cell(1, 0, 0), Cell(2, 1, 0)])
        many = Station(60, ((3, 20), (22, 40)), [], True)
        error = raised(views, wide, many)
        self.assertEqual(error[0], "TooMany")
        self.assertEqual(self.check([("a", many, 1)], wide), error)
        self.assertEqual(self.check([("a", many, -1)], wide), ("BadShelf", "price", 0))
        self.assertEqual(self.check([("a", many, 1), None], wide), error)


class TestShelves(unittest.TestCase):

    def test_names_and_things(self):
        rand = random.Random(571)
        for many in (0, 1, 3, 5, 6):
            for _ in range(6):
                rows = random_rows(rand, max(1, many))[:many]
                shelf = Shelf(BOXES, *rows)
                self.assertEqual(shelf.sheet, BOXES)
                self.assertEqual(list(shelf), sorted(name for name, _, _ in rows))
                self.assertEqual(len(shelf), len(rows))
                for name, thing, price in rows:
                    self.assertIn(name, shelf)
                    self.assertEqual(shelf[name], (thing, price))
                order = all_selections(rows)
                self.assertEqual(list(shelf.selections()), [names for _, _, names in order])
                for price, _, names in order:
                    self.assertEqual(shelf.cost(names), price)
                    if raised(shelf.chosen, names) is None:
                        made = shelf.chosen(names)
                        self.assertEqual(made, Line(BOXES, shelf[names[0]][0], *[shelf[name][0] for name in names[1:]]))

    def test_values_that_are_no_names(self):
        for value in odd_values() + ["digit", "digitss", ("digits",), "left"]:
            self.assertIs(value in SHELF, False)
            name, told = raised(lambda: SHELF[value])
            self.assertEqual(name, "NoName")
            self.assertIs(told, value)
            name, told = raised(SHELF.without, "mid", value, "none")
            self.assertEqual(name, "NoName")
            self.assertIs(told, value)

    def test_selections_that_are_none(self):
        wrong = [("digits",), ("mid", "digits"), ("mid", "right"), ("digits", "right", "mid"), ("digits", "mid", "mid"), ["digits", "mid"], ("digits", "left"), "digits", (), ("digits", None)]
        for value in odd_values() + wrong:
            self.assertEqual(raised(SHELF.chosen, value), ("BadValue", "names"))
            self.assertEqual(raised(SHELF.cost, value), ("BadValue", "names"))
        self.assertEqual(SHELF.cost(names=("digits", "mid", "wide")), 10)
        self.assertEqual(SHELF.chosen(names=("digits", "wide")), Line(BOXES, THREES, WIDE))
        two = SHELF.beside(("small", SMALL, 0))
        self.assertEqual(raised(two.cost, ("digits", "small")), ("BadValue", "names"))
        self.assertEqual(list(two.selections())[:3], [("small", "mid"), ("small", "right"), ("small", "mid", "right")])

    def test_at_most_three_stations(self):
        shelf = Shelf(BOXES, ("s", THREES, 0), *[(name, station, 0) for name, station in zip("abcde", (LEFT, MID, RIGHT, WIDE, LEFT))])
        told = list(shelf.selections())
        self.assertEqual(len(told), 5 + 10 + 10)
        self.assertEqual(told[:6], [("s", name) for name in "abcde"] + [("s", "a", "b")])
        self.assertEqual(told[-1], ("s", "c", "d", "e"))
        self.assertEqual(raised(shelf.cost, ("s", "a", "b", "c", "d")), ("BadValue", "names"))

    def test_lines_that_cannot_be_made(self):
        shelf = Shelf(CROWDED.sheet, ("s", CROWDED.stamp, 1), ("a", CROWDED.stations[0], 1), ("b", CROWDED.stations[1], 1), ("c", Station(10, ((0, 4),), [Row(1, 0, 0)]), 1))
        self.assertEqual(shelf.cost(("s", "a", "b", "c")), 4)
        self.assertEqual(raised(shelf.chosen, ("s", "a", "b", "c")), ("TooMany", "views"))

    def test_more_rows_and_fewer(self):
        more = SHELF.beside(("left", LEFT, 2))
        self.assertEqual(list(more), ["digits", "left", "mid", "right", "wide"])
        self.assertEqual(more, Shelf(BOXES, *ROWS, ("left", LEFT, 2)))
        self.assertEqual(len(SHELF), 4)
        self.assertEqual(SHELF.beside(), SHELF)
        self.assertEqual(SHELF.without(), SHELF)
        self.assertEqual(more.without("left"), SHELF)
        self.assertEqual(list(more.without("left", "digits", "left")), ["mid", "right", "wide"])
        self.assertEqual(raised(SHELF.beside, ("mid", MID, 2)), ("BadShelf", "name", 4))
        self.assertEqual(raised(SHELF.beside, ("left", LEFT, 2), None), ("BadShelf", "row", 5))
        self.assertEqual(raised(SHELF.beside, None, None, None), ("TooMany", "rows"))
        # A name that was taken away is free.
        self.assertEqual(more.without("mid").beside(("mid", WIDE, 0))["mid"], (WIDE, 0))

    def test_equality(self):
        for order in itertools.permutations(ROWS):
            self.assertEqual(Shelf(BOXES, *order), SHELF)
        thin = Sheet((Panel.firm(8),), (0,), (Cell(0, 0, 0, 2), Cell(0, 0, 6, 2), Cell(0, 0, 3, 1)))
        for other in (Shelf(thin, *ROWS), Shelf(BOXES, *ROWS[1:]), Shelf(BOXES, ("digit", THREES, 5), *ROWS[1:]), Shelf(BOXES, ("digits", SMALL, 5), *ROWS[1:]), Shelf(BOXES, ("digits", THREES, 6), *ROWS[1:])):
            self.assertNotEqual(other, SHELF)
        for value in odd_values():
            self.assertNotEqual(SHELF, value)


class TestCheapest(unittest.TestCase):

    def expected(self, rows, jumble):
        """The parts of a Cheapest, or an error."""
        shelf = Shelf(BOXES, *rows)
        ahead = []
        for price, _, names in all_selections(rows):
            paper = decide(Line(BOXES, shelf[names[0]][0], *[shelf[name][0] for name in names[1:]]), jumble)
            if type(paper) is Forced:
                return names, price, paper, self.greatest(ahead)
            ahead.append((names, paper))
        return None, None, None, self.greatest(ahead)

    def greatest(self, ahead):
        return tuple((names, paper) for names, paper in ahead if not any(within(names, other) for other, _ in ahead if other != names))

    def test_random_shelves(self):
        rand = random.Random(572)
        counts = {"none": 0, "some": 0, "bars": 0}
        for _ in range(40):
            rows = random_rows(rand, rand.choice((2, 3, 4, 5)))
            shelf = Shelf(BOXES, *rows)
            for jumble in rand.sample(JUMBLES, 4):
                try:
                    told = self.expected(rows, jumble)
                except PostError as error:
                    self.assertEqual(raised(cheapest, shelf, jumble), (type(error).__name__, *vars(error).values()))
                    continue
                paper = cheapest(shelf, jumble)
                self.assertEqual((paper.names, paper.price, paper.forced, paper.bars), told)
                self.assertIs(bool(paper), told[0] is not None)
                self.assertIs(look_cheapest(paper, shelf, jumble), True)
                counts["none"] += told[0] is None
                counts["some"] += told[0] is not None
                counts["bars"] += len(told[3]) > 1
        self.assertGreater(min(counts.values()), 15)

    def test_equal_prices(self):
        rows = [("s", THREES, 0), ("c", RIGHT, 1), ("b", MID, 1), ("a", WIDE, 2)]
        paper = cheapest(Shelf(BOXES, *rows), Jumble(2, 2))
        self.assertEqual((paper.names, paper.price), (("s", "a"), 2))
        self.assertEqual([names for names, _ in paper.bars], [("s", "b"), ("s", "c")])
        paper = cheapest(Shelf(BOXES, *rows[:3], ("z", WIDE, 2)), Jumble(2, 2))
        self.assertEqual(paper.names, ("s", "z"))
        paper = cheapest(Shelf(BOXES, *rows[:3], ("z", WIDE, 3)), Jumble(2, 2))
        self.assertEqual(paper.names, ("s", "b", "c"))
        self.assertEqual(cheapest(Shelf(BOXES, ("s", THREES, 0), ("z", WIDE, 2), ("a", WIDE, 2)), Jumble(1, 1)).names, ("s", "a"))
        self.assertEqual(cheapest(Shelf(BOXES, ("t", THREES, 0), ("s", THREES, 0), ("a", WIDE, 2)), Jumble(1, 1)).names, ("s", "a"))

    def test_nothing_forced(self):
        for jumble in (Jumble(20, 20), Jumble(1, 1, 0, False, 1)):
            paper = cheapest(SHELF, jumble)
            self.assertEqual((paper.names, paper.price, paper.forced), (None, None, None))
            self.assertEqual([names for names, _ in paper.bars], [("digits", "mid", "right", "wide")])
            self.assertFalse(paper)
            self.assertIs(look_cheapest(paper, SHELF, jumble), True)
        for rows in ((), ROWS[:1], ROWS[1:]):
            self.assertEqual(cheapest(Shelf(BOXES, *rows), Jumble()), Cheapest(None, None, None, ()))

    def test_choices_of_which_no_line_can_be_made(self):
        shelf = Shelf(CROWDED.sheet, ("s", CROWDED.stamp, 1), ("a", CROWDED.stations[0], 1), ("b", CROWDED.stations[1], 1), ("c", Station(10, ((0, 4),), [Row(1, 0, 0)]), 1))
        self.assertEqual(cheapest(shelf, Jumble(1, 1)).names, ("s", "c"))
        self.assertEqual(raised(cheapest, shelf, Jumble(9, 10)), ("TooMany", "views"))
        self.assertEqual(raised(cheapest, shelf, Jumble(1, 1, 0, True, 2)), ("TooMany", "views"))

    def test_tables_that_are_too_great(self):
        line = wide_lines.above_4000()[0][0]
        shelf = Shelf(line.sheet, ("s", line.stamp, 1), ("a", line.stations[0], 1))
        self.assertEqual(raised(cheapest, shelf, Jumble(1, 1)), ("TooMany", "states"))
        self.assertIsNone(cheapest(shelf, Jumble(1, 1, 0, True, 1)).names)
        all_seen = Station(4, ((0, 4),))
        self.assertEqual(cheapest(shelf.beside(("b", all_seen, 0)), Jumble(1, 1)).names, ("s", "b"))
        self.assertEqual(raised(cheapest, shelf.beside(("b", all_seen, 2)), Jumble(1, 1)), ("TooMany", "states"))

    def test_refused(self):
        for value in odd_values():
            if not isinstance(value, Shelf):
                self.assertEqual(raised(cheapest, value, value), ("BadValue", "shelf"))
            if type(value) is not Jumble:
                self.assertEqual(raised(cheapest, SHELF, value), ("BadValue", "jumble"))
        self.assertEqual(cheapest(jumble=Jumble(2, 2), shelf=SHELF).price, 7)

    def test_papers(self):
        for value in odd_values():
            paper = Cheapest(value, 1, 2, 3)
            self.assertEqual((paper.names, paper.price, paper.forced, paper.bars), (value, 1, 2, 3))
            self.assertIs(bool(paper), value is not None)
            self.assertEqual(Cheapest(bars=value, forced=value, price=value, names=value), Cheapest(value, value, value, value))
            for other in (Cheapest((value, 1), 1, 2, 3), Cheapest(value, 2, 2, 3), Cheapest(value, 1, 1, 3), Cheapest(value, 1, 2, 4), value, (value, 1, 2, 3)):
                self.assertNotEqual(paper, other)


if __name__ == "__main__":
    unittest.main()
