"""Over the whole program: any value for any argument, calls by names, and arguments that nothing changes."""

import copy
import importlib
import inspect
import unittest

from jumblepost.changes import with_pane
from jumblepost.desk import Desk
from jumblepost.errors import PostError
from jumblepost.forced import decide
from jumblepost.greatest import greatest
from jumblepost.jumbles import Jumble
from jumblepost.least import fewest_stations, least_pane
from jumblepost.ledger import Ledger, ledger_table
from jumblepost.lines import Line
from jumblepost.met import met_line
from jumblepost.once import one_unread
from jumblepost.post import Post
from jumblepost.rows import Row
from jumblepost.runs import Run
from jumblepost.sheets import Cell, Panel, Sheet
from jumblepost.shelves import Shelf, cheapest
from jumblepost.sightings import alike, sighting
from jumblepost.spans import span_table
from jumblepost.stamps import Stamp
from jumblepost.stations import Station
from jumblepost.steady import SteadyRun
from jumblepost.store import Store
from jumblepost.texts import Setting
from jumblepost.twins import twins
from jumblepost.unread import reader
from jumblepost.views import each_sight, view_tree
from jumblepost.wheels import Wheel
from jumblepost.zones import Zone
from tests.helpers import odd_values
from tests.test_interface import FUNCTIONS
from tests.test_residues import LAGGING
from tests.test_twins import SEEN

LINE, DIGITS, RULE = LAGGING[7], SEEN[10], Jumble(1, 2)
SHEET, STATION, STAMP = LINE.sheet, LINE.stations[0], LINE.stamp
ZONE = Zone(3, 10, [Row(2, 1, 6), Row(1, 2, -4)])
SHUT = ZONE & Row(2, 0, 3)
RECORD = (("1",), ("0",), ("2",))
BOOK = Ledger.of(LINE, Jumble(4, 1), (("00",), ("00",)))
SHELF = Shelf(SHEET, ("s", STAMP, 1), ("a", STATION, 2))
# Right arguments, by the names of parameters; some functions have their own.
ARGUMENTS = {
    "zone": ZONE, "sheet": SHEET, "station": STATION, "stamp": STAMP, "line": LINE, "jumble": RULE, "row": Row(1, 0, 6), "shelf": SHELF, "turned": False, "places": (0, 0, 2), "number": 7,
    "one": 3, "other": 7, "pattern": "..", "index": 1, "view": ((0, 1),), "text": "01", "look": ("00",), "distance": 4, "most": 3, "run": Run(2, (4, 3, 2)), "unread": (1, 9),
    "head": (1, 0, None), "first": 3, "record": (("03",), ("10",)), "history": (3, 4), "early": 2, "late": 2, "spread": 4, "place": 6, "station_at": 0, "pane_at": 0, "pane": (0, 1),
    "part": "late", "amount": 2, "rows": ((1, "a"),), "widths": (3, -2), "post": Post(DIGITS, RULE)}
OWN = {
    "links": {"view": ((0, 1),), "other": ((1, 2),)}, "look_ring": {"zone": SHUT}, "view_at": {"sheet": Sheet((Panel(2, 2),), (0,), (Cell(0, 0, 0),)), "places": (0, 0, 2)},
    "look_placing": {"places": (0, 0, 4)}, "cell_places": {"sheet": SHEET}, "record_text": {"record": (("a",), None)}, "read_look": {"text": "a|_"}, "read_record": {"text": "record ? a"},
    "parsed": {"text": "take 1 ?"}, "reader": {"line": DIGITS}, "readings": {"line": DIGITS, "record": RECORD, "first": 0}, "printed": {"index": 2}}
PAPERS = {
    "look_ring": ("ring", SHUT.ring()), "look_chain": ("chain", ZONE.chain(1, 0)), "look_sight": ("sight", next(each_sight(SHEET, STATION))), "look_tree": ("tree", view_tree(SHEET, STATION)),
    "look_sighting": ("paper", sighting(LINE, 7, ("13",))), "look_alike": ("paper", alike(LINE, 0, 4)), "look_table": ("paper", span_table(LINE)), "look_twins": ("paper", twins(LINE, Jumble(3, 3))),
    "look_forced": ("paper", decide(LINE, RULE)), "look_ledger": ("paper", ledger_table(LINE, RULE, (("00",), ("01",)))), "look_second": ("paper", BOOK.second(0)),
    "look_met": ("paper", met_line(LINE, 2, 2)), "look_once": ("paper", one_unread(LINE, 2, 2)), "look_greatest": ("paper", greatest(LINE, RULE, "late")),
    "look_pane": ("paper", least_pane(LINE, 0, 0, RULE)), "look_stations": ("paper", fewest_stations(LINE, RULE)), "look_cheapest": ("paper", cheapest(SHELF, RULE))}


def calls():
    """Pairs of each function of the interface and right arguments for it, by name."""
    for file, names in FUNCTIONS.items():
        module = importlib.import_module("jumblepost." + file)
        for name in names:
            function = vars(module)[name]
            known = {**ARGUMENTS, **OWN.get(name, {})}
            if name in PAPERS:
                known[PAPERS[name][0]] = PAPERS[name][1]
            told = inspect.signature(function).parameters
            yield name, function, {word: known[word] for word, kind in told.items() if kind.kind is not inspect.Parameter.VAR_POSITIONAL}


def ended(value):
    """A value, or the list of what a generator yields."""
    return list(value) if inspect.isgenerator(value) else value


class TestFunctions(unittest.TestCase):

    def test_right_arguments_by_names(self):
        for name, function, known in calls():
            if name == "at_stations":
                continue
            told = ended(function(**known))
            self.assertEqual(repr_of(ended(function(*known.values()))), repr_of(told), name)
            if name.startswith("look_") and name not in ("look_of", "look_text"):
                self.assertIs(told, True, name)

    def test_any_value_for_any_argument(self):
        """An error of the package is raised, or the value is right."""
        values = odd_values()
        for name, function, known in calls():
            for word in known:
                for value in values:
                    told = None
                    try:
                        told = ended(function(**{**known, word: value}))
                    except PostError as error:
                        told = error
                    if name.startswith("look_") and name not in ("look_of", "look_text") and not isinstance(told, PostError):
                        self.assertIsInstance(told, bool)

    def test_arguments_are_not_changed(self):
        """What is mutable among the values is as it was."""
        values = [value for value in odd_values() if isinstance(value, (list, dict))]
        before = copy.deepcopy(values)
        for _, function, known in calls():
            for word in known:
                for value in values:
                    try:
                        ended(function(**{**known, word: value}))
                    except PostError:
                        continue
        self.assertEqual(values, before)


def repr_of(value):
    """A text of a value that is the same for equal papers."""
    if hasattr(value, "__dict__"):
        return type(value).__name__, {name: repr_of(part) for name, part in vars(value).items()}
    if isinstance(value, (list, tuple)):
        return type(value).__name__, [repr_of(part) for part in value]
    return repr(value)


class TestMethods(unittest.TestCase):
    """Methods and classes, with any value for any argument."""

    def objects(self):
        sight = LINE.views[0]
        return [
            (Row, (1, 0, 3)), (Zone, (3, 5, ())), (Panel, (1, 2)), (Cell, (0, 0, 0, 1)), (Sheet, ((Panel(1, 1),), (0,), (Cell(0, 0, 0),))), (Station, (3, ((0, 1),), (), False)), (Wheel, (("a", "b"), 0, 0)),
            (Stamp, (Wheel.digits(3), Wheel.digits(2))), (Line, (SHEET, STAMP, STATION)), (Jumble, (1, 2, 0, False, 3)), (Run, (2, (3, 2), (5,))), (Store, (3,)), (Ledger, (LINE, RULE, 0)),
            (Ledger.of, (LINE, RULE, (("00",),), 0)), (SteadyRun, (2, 2, 6, (0, 2), 4)), (Shelf, (SHEET, ("s", STAMP, 1))), (Post, (DIGITS, RULE, 0)), (Setting, (LINE, RULE)), (Desk, (DIGITS, RULE, 0)),
            (Row.read, ("x0 - x1 <= 2",)), (Sheet.read, (str(SHEET),)), (Station.read, (str(STATION),)), (Wheel.read, ("a b / 0 0",)), (Stamp.read, (str(STAMP),)), (Jumble.read, ("early 1 late 2",)),
            (Run.read, ("begin 2",)), (Setting.read, (str(Setting(LINE, RULE)),)), (Panel.firm, (3,)), (Wheel.digits, (3, 0, 0)), (Stamp.digits, (3, 2)),
            (Row(0, 1, 2).holds, ((0, 1),)), (ZONE.gap, (1, 0)), (ZONE.chain, (1, 0)), (STATION.pushed, (Row(1, 0, 0),)), (Wheel.digits(3).may, (1, 1)), (STAMP.figures, (5,)), (STAMP.prints, (5,)),
            (STAMP.value, ((0, 1),)), (STAMP.print_of, ((0, 1),)), (STAMP.band, (0, 1)), (STAMP.cell, (1,)), (LINE.sights_of, (sight,)), (LINE.beside, (STATION,)), (LINE.stamped, (STAMP,)),
            (RULE.within, (RULE,)), (Run(3).letter, (1,)), (Run(3).rank, (1,)), (Run(3).where, (1,)), (Run(3).stretch, (1, 2)), (Store(2).put, (1,)), (BOOK.possible, (1,)), (BOOK.second, (1,)),
            (SHELF.beside, (("b", STATION, 1),)), (SHELF.without, ("a",)), (SHELF.chosen, (("s", "a"),)), (SHELF.cost, (("s", "a"),)), (SteadyRun(2, 2, 6, (0, 1)).letter, (3,)),
            (SteadyRun(2, 2, 6, (0, 1)).where, (3,)), (SteadyRun(2, 2, 6, (0, 1)).stretch, (3, 4))]

    def test_any_value_for_any_argument(self):
        for call, known in self.objects():
            call(*known)
            for at in range(len(known)):
                for value in odd_values():
                    try:
                        call(*known[:at], value, *known[at + 1:])
                    except PostError:
                        continue

    def test_what_changes_takes_any_value(self):
        """Readers, ledgers, posts and desks are as they were behind an error."""
        for value in odd_values():
            for jumble in (RULE, Jumble(1, 1, 1), Jumble(0, 0, 0, True), Jumble(1, 2, 0, False, 3)):
                told = reader(DIGITS, jumble)
                told.take(("0",))
                for call in (told.take, lambda item: told.take_all(("1",), item)):
                    before = dict(vars(told))
                    try:
                        call(value)
                    except PostError:
                        self.assertEqual(dict(vars(told)), before)
            post, desk = Post(DIGITS, RULE), Desk(DIGITS, RULE)
            for call in (post.take, post.take_all, post.change, post.do, desk.ask, lambda text: list(desk.run(text))):
                before = (dict(vars(post)), dict(vars(desk)))
                try:
                    call(value)
                except PostError:
                    self.assertEqual((dict(vars(post)), dict(vars(desk))), before)

    def test_values_are_in_nothing(self):
        for value in odd_values():
            self.assertIs(value in SHELF, False)
            self.assertIs(value in BOOK, False)
            self.assertIs(value in ZONE, isinstance(value, Row) and value in (Row(0, 1, 2),))


class TestEquality(unittest.TestCase):

    def test_equal_to_nothing_else(self):
        """Each of many objects is equal to one made in the same way if this is told, and to no other value."""
        values, again = odd_values(), odd_values()
        same = ("BadValue", "Store", "Reader", "PlainReader", "Ledger", "Post", "Desk")
        for at, value in enumerate(values):
            if isinstance(value, (bool, int)):
                continue
            for k, other in enumerate(again):
                if at == k:
                    self.assertIs(value == other, type(value).__name__ not in same, value)
                else:
                    self.assertIs(value == other, False, (value, other))

    def test_panes_that_are_changed(self):
        self.assertEqual(with_pane(LINE, 0, 0, (0, 2)), LINE)


if __name__ == "__main__":
    unittest.main()
