"""What looks at greatest rules, least designs and cheapest choices: each paper with one part changed at any place."""

import itertools
import random
import unittest

from jumblepost.changes import at_stations
from jumblepost.forced import Forced, decide
from jumblepost.greatest import Greatest, greatest, with_part
from jumblepost.jumbles import Jumble
from jumblepost.least import Least, fewest_stations, least_pane
from jumblepost.lines import Line
from jumblepost.look_designs import look_cheapest, look_greatest, look_pane, look_stations
from jumblepost.look_forced import look_forced, look_twins
from jumblepost.rows import Row
from jumblepost.shelves import Cheapest, Shelf, cheapest
from jumblepost.spans import SpanTable, span_table
from jumblepost.stations import Station
from jumblepost.twins import Twins, twins
from tests import tables, wide_lines
from tests.helpers import odd_values, raised
from tests.test_least import BOXES, BROAD, CROWDED, JUMBLES, LINES, all_panes, all_widths, several
from tests.test_shelves import SHELF, all_selections, random_rows, within
from tests.test_twins import SEEN


def is_forced(paper, line, jumble):
    return type(paper) is Forced and look_forced(paper, line) and paper.jumble == jumble


def are_twins(paper, line, jumble):
    return type(paper) is Twins and look_twins(paper, line) and paper.jumble == jumble


def is_integer(value, least, most):
    return type(value) is int and least <= value <= most


def right_greatest(paper, line, jumble, part):
    if type(paper) is not Greatest:
        return False
    if paper.amount is None:
        return paper.forced is None and are_twins(paper.beyond, line, with_part(jumble, part, 0))
    if not is_integer(paper.amount, 0, 20) or not is_forced(paper.forced, line, with_part(jumble, part, paper.amount)):
        return False
    if paper.amount == 20:
        return paper.beyond is None
    return are_twins(paper.beyond, line, with_part(jumble, part, paper.amount + 1))


def right_least(paper, amounts, lines, jumble):
    """Whether a Least is right for these amounts and their lines."""
    if type(paper) is not Least or type(paper.lesser) is not tuple:
        return False
    if paper.amount is None:
        many = len(amounts)
        if paper.forced is not None:
            return False
    else:
        found = [at for at, amount in enumerate(amounts) if repr(amount) == repr(paper.amount)]
        if not found or not is_forced(paper.forced, lines[found[0]], jumble):
            return False
        many = found[0]
    return len(paper.lesser) == many and all(are_twins(told, line, jumble) for told, line in zip(paper.lesser, lines))


def right_cheapest(paper, shelf, jumble):
    if type(paper) is not Cheapest or type(paper.bars) is not tuple:
        return False
    order = list(shelf.selections())
    if paper.names is None:
        better = order
        if paper.price is not None or paper.forced is not None:
            return False
    else:
        if type(paper.names) is not tuple or paper.names not in order:
            return False
        if type(paper.price) is not int or paper.price != shelf.cost(paper.names):
            return False
        better = order[:order.index(paper.names)]
    for bar in paper.bars:
        if type(bar) is not tuple or len(bar) != 2 or type(bar[0]) is not tuple or bar[0] not in order:
            return False
        if raised(shelf.chosen, bar[0]) or not are_twins(bar[1], shelf.chosen(bar[0]), jumble):
            return False
    if not all(any(within(names, bar[0]) for bar in paper.bars) for names in better):
        return False
    return paper.names is None or is_forced(paper.forced, shelf.chosen(paper.names), jumble)


def changed_papers(paper, line, rand):
    """What can stand in the place of a Forced or a Twins, or of None."""
    found = [None, (), 0, [paper], (paper,)]
    for jumble in rand.sample(JUMBLES, 4):
        found.append(decide(line, jumble))
        if type(paper) is Forced:
            found.append(Forced(jumble, paper.table))
        if type(paper) is Twins:
            found.append(Twins(jumble, paper.place, paper.one, paper.other, paper.unread, paper.alikes))
    if type(paper) is Forced:
        found += [Forced(paper.jumble, SpanTable(least, paper.table.tables)) for least in range(0, paper.table.span + 2)]
        found.append(Forced(paper.jumble, None))
    if type(paper) is Twins:
        found += [Twins(paper.jumble, paper.place + 1, paper.one, paper.other, paper.unread, paper.alikes)]
        found += [Twins(paper.jumble, paper.place, paper.other, paper.one, paper.unread, paper.alikes)]
        found += [Twins(paper.jumble, paper.place, paper.one, paper.other, paper.unread, paper.alikes[1:])]
        found += [Twins(paper.jumble, paper.place, paper.one, paper.other, (), ())]
    return found


class TestGreatest(unittest.TestCase):

    def check(self, counts, paper, *args):
        fine = right_greatest(paper, *args)
        self.assertIs(look_greatest(paper, *args), fine, (vars(paper), args))
        counts[fine] += 1

    def test_one_part_changed(self):
        rand = random.Random(581)
        counts = [0, 0]
        for d in (1, 2, 3, 5, 8, 20):
            line = SEEN[d]
            for jumble in JUMBLES:
                for part in ("early", "late", "lost"):
                    paper = greatest(line, jumble, part)
                    self.assertIs(look_greatest(paper, line, jumble, part), True)
                    amount = 0 if paper.amount is None else paper.amount
                    for told in (None, True, False, -1, 21, amount + 1, amount - 1, 0, 20, str(amount), float(amount), (amount,)):
                        self.check(counts, Greatest(told, paper.forced, paper.beyond), line, jumble, part)
                        if is_integer(told, 0, 19):
                            forced, beyond = [decide(line, with_part(jumble, part, told + more)) for more in (0, 1)]
                            self.check(counts, Greatest(told, forced, beyond), line, jumble, part)
                            self.check(counts, Greatest(None, None, forced), line, jumble, part)
                    for told in changed_papers(paper.forced, line, rand):
                        self.check(counts, Greatest(paper.amount, told, paper.beyond), line, jumble, part)
                    for told in changed_papers(paper.beyond, line, rand):
                        self.check(counts, Greatest(paper.amount, paper.forced, told), line, jumble, part)
                    for other in rand.sample(JUMBLES, 3):
                        for word in ("early", "late", "lost"):
                            self.check(counts, paper, line, other, word)
                    self.check(counts, paper, SEEN[rand.choice((1, 4, 9, 12))], jumble, part)
        self.assertGreater(counts[0], 3000)
        self.assertGreater(counts[1], 200)

    def test_other_papers_that_hold(self):
        """A Forced with a lesser span, and Twins with a greater begin, are right as well."""
        line, jumble = SEEN[6], Jumble(1, 2)
        paper = greatest(line, jumble, "late")
        self.assertEqual(paper.amount, 5)
        table = paper.forced.table
        for least in (6, 5):
            told = Greatest(5, Forced(paper.forced.jumble, SpanTable(least, table.tables)), paper.beyond)
            self.assertIs(look_greatest(told, line, jumble, "late"), least == 6)
        lower = Greatest(3, Forced(Jumble(1, 3), SpanTable(4, table.tables)), twins(SEEN[4], Jumble(1, 4)))
        self.assertIs(look_greatest(lower, line, jumble, "late"), False)

    def test_no_table_is_made(self):
        line = wide_lines.above_4000()[1][0]
        table = SpanTable(1, tables.tables(line))
        told = Greatest(20, Forced(Jumble(0, 20), table), None)
        self.assertEqual(raised(greatest, line, Jumble(), "late"), ("TooMany", "states"))
        self.assertIs(look_greatest(told, line, Jumble(), "late"), True)
        self.assertIs(look_greatest(told, line, Jumble(), "early"), False)

    def test_refused(self):
        paper = greatest(SEEN[3], Jumble(), "late")
        for value in odd_values():
            if not isinstance(value, Line):
                self.assertEqual(raised(look_greatest, value, value, value, value), ("BadValue", "line"))
            if type(value) is not Jumble:
                self.assertEqual(raised(look_greatest, value, SEEN[3], value, value), ("BadValue", "jumble"))
            self.assertEqual(raised(look_greatest, value, SEEN[3], Jumble(), value), ("BadValue", "part"))
            for told in (value, Greatest(value, paper.forced, paper.beyond), Greatest(paper.amount, value, paper.beyond), Greatest(paper.amount, paper.forced, value)):
                self.assertIs(look_greatest(told, SEEN[3], Jumble(), "late"), right_greatest(told, SEEN[3], Jumble(), "late"))
        self.assertIs(look_greatest(part="late", jumble=Jumble(), line=SEEN[3], paper=paper), True)


class TestPanes(unittest.TestCase):

    def check(self, counts, paper, line, at, index, jumble):
        told = all_widths(line, at, index)
        fine = right_least(paper, [width for width, _ in told], [other for _, other in told], jumble)
        self.assertIs(look_pane(paper, line, at, index, jumble), fine, vars(paper))
        counts[fine] += 1

    def test_one_part_changed(self):
        rand = random.Random(582)
        counts = [0, 0]
        panes = [told for told in all_panes(LINES[:20]) if all(line for _, line in all_widths(*told))]
        for line, at, index in panes[:14]:
            for jumble in rand.sample(JUMBLES, 4):
                paper = least_pane(line, at, index, jumble)
                self.check(counts, paper, line, at, index, jumble)
                for changed in changed_leasts(paper, line, rand):
                    self.check(counts, changed, line, at, index, jumble)
                for other in rand.sample(JUMBLES, 2):
                    self.check(counts, paper, line, at, index, other)
        self.assertGreater(counts[0], 800)
        self.assertGreater(counts[1], 60)

    def test_widths_of_which_no_line_can_be_made(self):
        """Lines are made up to the width that is told, and for none of them all."""
        for jumble in (Jumble(1, 2), Jumble(2, 2), Jumble(4, 5)):
            paper = least_pane(CROWDED, 2, 0, jumble)
            self.assertIs(look_pane(paper, CROWDED, 2, 0, jumble), True)
            self.assertIs(look_pane(Least(None, None, paper.lesser), CROWDED, 2, 0, jumble), False)
            self.assertIs(look_pane(Least(9, paper.forced, paper.lesser), CROWDED, 2, 0, jumble), False)
        lines = [line for _, line in all_widths(CROWDED, 2, 0)]
        lesser = tuple(decide(line, Jumble(9, 9)) for line in lines[:3])
        rest = (lesser[-1],) * (len(lines) - 3)
        self.assertEqual(raised(look_pane, Least(None, None, lesser + rest), CROWDED, 2, 0, Jumble(9, 9)), ("TooMany", "views"))
        self.assertEqual(raised(look_pane, Least(4, None, lesser), CROWDED, 2, 0, Jumble(9, 9)), ("TooMany", "views"))

    def test_refused(self):
        paper = least_pane(BROAD, 0, 0, Jumble(1, 2))
        for value in odd_values():
            if not isinstance(value, Line):
                self.assertEqual(raised(look_pane, value, value, value, value, value), ("BadValue", "line"))
            self.assertEqual(raised(look_pane, value, BROAD, value, value, value), ("BadValue", "station_at"))
            self.assertEqual(raised(look_pane, value, BROAD, 0, value, value), ("BadValue", "pane_at"))
            if type(value) is not Jumble:
                self.assertEqual(raised(look_pane, value, BROAD, 0, 0, value), ("BadValue", "jumble"))
            counts = [0, 0]
            for told in (Least(value, paper.forced, paper.lesser), Least(5, value, paper.lesser), Least(5, paper.forced, value), Least(5, paper.forced, (value, *paper.lesser[1:]))):
                self.check(counts, told, BROAD, 0, 0, Jumble(1, 2))
            self.assertIs(look_pane(value, BROAD, 0, 0, Jumble(1, 2)), False)
        self.assertIs(look_pane(jumble=Jumble(1, 2), pane_at=0, station_at=0, line=BROAD, paper=paper), True)


def changed_leasts(paper, line, rand):
    """Leasts with one thing changed."""
    amount, forced, lesser = paper.amount, paper.forced, paper.lesser
    amounts = [None, True, False, 0, 1, 2, 3, -1, 60, "1", 1.0, (), (0,), (1,), (0, 1), (1, 0), (True,), (0, 0), (0, 1, 2), (3,), [0], (0, 5), ((0,),)]
    for told in amounts + ([amount + 1, amount - 1] if type(amount) is int else []):
        yield Least(told, forced, lesser)
        yield Least(told, forced, lesser[:-1])
    for told in changed_papers(forced, line, rand):
        yield Least(amount, told, lesser)
    for told in (list(lesser), (), None, lesser[1:], lesser[:-1], lesser + lesser[-1:], lesser[::-1], lesser + (forced,)):
        yield Least(amount, forced, told)
    for at in rand.sample(range(len(lesser)), min(2, len(lesser))):
        for told in changed_papers(lesser[at], line, rand):
            yield Least(amount, forced, lesser[:at] + (told,) + lesser[at + 1:])
        yield Least(amount, forced, lesser[:at] + lesser[at:at + 2][::-1] + lesser[at + 2:])


class TestStations(unittest.TestCase):

    def check(self, counts, paper, line, jumble):
        many = len(line.stations)
        choices = [choice for length in range(1, many + 1) for choice in itertools.combinations(range(many), length)]
        fine = right_least(paper, choices, [at_stations(line, *choice) for choice in choices], jumble)
        self.assertIs(look_stations(paper, line, jumble), fine, vars(paper))
        counts[fine] += 1

    def test_one_part_changed(self):
        rand = random.Random(583)
        counts = [0, 0]
        for line in several(6) + [line for line in LINES if len(line.stations) > 1][:8] + [BROAD]:
            for jumble in rand.sample(JUMBLES, 4):
                paper = fewest_stations(line, jumble)
                self.check(counts, paper, line, jumble)
                for changed in changed_leasts(paper, line, rand):
                    self.check(counts, changed, line, jumble)
                for other in rand.sample(JUMBLES, 2):
                    self.check(counts, paper, line, other)
        self.assertGreater(counts[0], 1000)
        self.assertGreater(counts[1], 60)

    def test_refused(self):
        line = several(3)[0]
        paper = fewest_stations(line, Jumble(2, 2))
        for value in odd_values():
            if not isinstance(value, Line):
                self.assertEqual(raised(look_stations, value, value, value), ("BadValue", "line"))
            if type(value) is not Jumble:
                self.assertEqual(raised(look_stations, value, line, value), ("BadValue", "jumble"))
            counts = [0, 0]
            for told in (Least(value, paper.forced, paper.lesser), Least(paper.amount, value, paper.lesser), Least(paper.amount, paper.forced, value), Least((value,), paper.forced, paper.lesser)):
                self.check(counts, told, line, Jumble(2, 2))
            self.assertIs(look_stations(value, line, Jumble(2, 2)), False)
        self.assertIs(look_stations(jumble=Jumble(2, 2), line=line, paper=paper), True)


class TestCheapest(unittest.TestCase):

    def check(self, counts, paper, shelf, jumble):
        fine = right_cheapest(paper, shelf, jumble)
        self.assertIs(look_cheapest(paper, shelf, jumble), fine, vars(paper))
        counts[fine] += 1

    def changed(self, paper, shelf, rand):
        """Cheapests with one thing changed."""
        names, price, forced, bars = paper.names, paper.price, paper.forced, paper.bars
        order = list(shelf.selections())
        for told in [None, (), list(names or ()), "x", (names,), *rand.sample(order, min(4, len(order)))]:
            yield Cheapest(told, price, forced, bars)
            if told in order:
                made = shelf.chosen(told)
                yield Cheapest(told, shelf.cost(told), decide(made, Jumble()) if forced is None else Forced(forced.jumble, span_table(made)), bars)
        for told in (None, 0, -1, True, str(price), (price or 0) + 1, (price or 0) - 1, float(price or 0)):
            yield Cheapest(names, told, forced, bars)
        for told in changed_papers(forced, shelf.chosen(order[0]), rand):
            yield Cheapest(names, price, told, bars)
        for told in (list(bars), (), None, bars[1:], bars[:-1], bars + bars, bars[::-1], bars + (None,), bars + ((),)):
            yield Cheapest(names, price, forced, told)
        for at in rand.sample(range(len(bars)), min(2, len(bars))):
            others = [(bars[at][0], told) for told in changed_papers(bars[at][1], shelf.chosen(bars[at][0]), rand)]
            others += [(told, bars[at][1]) for told in (*rand.sample(order, min(3, len(order))), None, list(bars[at][0]), bars[at][0] + ("x",))]
            others += [list(bars[at]), bars[at] + (0,), bars[at][::-1], bars[at][:1], bars[at][0]]
            for bar in others:
                yield Cheapest(names, price, forced, bars[:at] + (bar,) + bars[at + 1:])

    def test_one_part_changed(self):
        rand = random.Random(584)
        counts = [0, 0]
        while sum(counts) < 3000:
            shelf = Shelf(BOXES, *random_rows(rand, rand.choice((2, 3, 4))))
            if any(raised(shelf.chosen, names) for names in shelf.selections()) or not list(shelf.selections()):
                continue
            for jumble in rand.sample(JUMBLES, 3):
                paper = cheapest(shelf, jumble)
                self.check(counts, paper, shelf, jumble)
                for changed in self.changed(paper, shelf, rand):
                    self.check(counts, changed, shelf, jumble)
                for other in rand.sample(JUMBLES, 2):
                    self.check(counts, paper, shelf, other)
        self.assertGreater(counts[1], 200)

    def test_bars_of_all_kinds(self):
        """A bar may be any selection that is not forced, also one that is worse or lies within another one."""
        jumble = Jumble(2, 2)
        paper = cheapest(SHELF, jumble)
        counts = [0, 0]
        every = [(names, decide(SHELF.chosen(names), jumble)) for names in SHELF.selections()]
        for bar in every:
            self.check(counts, Cheapest(paper.names, paper.price, paper.forced, paper.bars + (bar,)), SHELF, jumble)
            self.check(counts, Cheapest(paper.names, paper.price, paper.forced, (bar, *paper.bars[1:])), SHELF, jumble)
        for many in range(3):
            for told in itertools.permutations([bar for bar in every if type(bar[1]) is Twins], many):
                self.check(counts, Cheapest(paper.names, paper.price, paper.forced, told), SHELF, jumble)
        self.assertGreater(min(counts), 3)

    def test_other_shelves(self):
        found = cheapest(SHELF, Jumble(2, 2))
        self.assertIs(look_cheapest(found, SHELF.without("wide"), Jumble(2, 2)), True)
        self.assertIs(look_cheapest(found, SHELF.without("right"), Jumble(2, 2)), False)
        self.assertIs(look_cheapest(found, SHELF.beside(("left", Station(8, ((0, 2),)), 0)), Jumble(2, 2)), False)
        self.assertIs(look_cheapest(found, SHELF.beside(("left", Station(8, ((0, 2),)), 9)), Jumble(2, 2)), True)

    def test_choices_of_which_no_line_can_be_made(self):
        wide = Station(10, ((0, 4),), [Row(1, 0, 0)])
        rows = [("s", CROWDED.stamp, 1), ("a", CROWDED.stations[0], 1), ("b", CROWDED.stations[1], 1), ("c", wide, 1)]
        shelf = Shelf(CROWDED.sheet, *rows)
        paper = cheapest(shelf, Jumble(1, 1))
        self.assertIs(look_cheapest(paper, shelf, Jumble(1, 1)), True)
        every = ("s", "a", "b", "c")
        told = Cheapest(paper.names, paper.price, paper.forced, paper.bars + ((every, paper.bars[0][1]),))
        self.assertIs(look_cheapest(told, shelf, Jumble(1, 1)), False)
        told = Cheapest(every, 4, paper.forced, paper.bars)
        self.assertIs(look_cheapest(told, shelf, Jumble(1, 1)), False)
        # All that is better is barred, so that a line is to be made of the last one.
        jumble = Jumble(9, 9)
        bars = tuple((names, decide(shelf.chosen(names), jumble)) for names in shelf.selections() if names != every)
        self.assertEqual(raised(look_cheapest, Cheapest(None, None, None, bars), shelf, jumble), ("TooMany", "views"))
        self.assertEqual(raised(look_cheapest, Cheapest(every, 4, None, bars), shelf, jumble), ("TooMany", "views"))

    def test_no_table_is_made(self):
        line = wide_lines.above_4000()[1][0]
        shelf = Shelf(line.sheet, ("s", line.stamp, 1), ("c", line.stations[0], 1), ("a", line.stations[1], 1), ("b", line.stations[2], 1))
        jumble = Jumble(1, 1, 0, True, 1)
        paper = cheapest(shelf, jumble)
        self.assertIs(look_cheapest(paper, shelf, jumble), True)
        self.assertEqual([names for names, _ in paper.bars], [("s", "a", "b", "c")])

    def test_refused(self):
        paper = cheapest(SHELF, Jumble(2, 2))
        parts = (paper.names, paper.price, paper.forced, paper.bars)
        counts = [0, 0]
        for value in odd_values():
            if not isinstance(value, Shelf):
                self.assertEqual(raised(look_cheapest, value, value, value), ("BadValue", "shelf"))
            if type(value) is not Jumble:
                self.assertEqual(raised(look_cheapest, value, SHELF, value), ("BadValue", "jumble"))
            for at in range(4):
                self.check(counts, Cheapest(*parts[:at], value, *parts[at + 1:]), SHELF, Jumble(2, 2))
            for bar in (value, (value, paper.bars[0][1]), (paper.bars[0][0], value)):
                self.check(counts, Cheapest(*parts[:3], (bar, *paper.bars[1:])), SHELF, Jumble(2, 2))
            self.assertIs(look_cheapest(value, SHELF, Jumble(2, 2)), False)
        self.assertIs(look_cheapest(jumble=Jumble(2, 2), shelf=SHELF, paper=paper), True)


if __name__ == "__main__":
    unittest.main()
