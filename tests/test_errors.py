"""Errors: fields of any kind, by position and by name, and the classes above them."""

import inspect
import itertools
import unittest

from jumblepost import errors
from jumblepost.desk import Desk
from jumblepost.jumbles import Jumble
from jumblepost.ledger import Ledger
from jumblepost.lines import Line
from jumblepost.post import Post
from jumblepost.rows import Row
from jumblepost.runs import Run
from jumblepost.sheets import Cell, Panel, Sheet
from jumblepost.shelves import Shelf
from jumblepost.stamps import Stamp
from jumblepost.stations import Station
from jumblepost.unread import reader
from jumblepost.zones import Zone
from tests import helpers
from tests.helpers import odd_values

FIELDS = {
    "BadValue": ("what",), "BadRow": ("index",), "BadSheet": ("what", "index"), "BadStation": ("what", "index"),
    "BadStamp": ("what", "index"), "BadLine": ("what",), "NoPlacing": ("station",), "TooMany": ("what",),
    "BadRun": ("what", "index"), "NotForced": ("paper",), "Unfit": ("place",), "BadRecord": ("place",),
    "NoHistory": ("place",), "NothingKept": ("what",), "BadText": ("at", "word"), "BadAsk": ("at", "word"),
    "BadShelf": ("what", "index"), "NoName": ("name",),
}


def any_values():
    """Values of all kinds, errors of each class among them."""
    made = [getattr(errors, name)(*fields) for name, fields in FIELDS.items()]
    return [*odd_values(), 0, 5, [1, None], *made, errors.PostError(), errors.PostError(5, [1], None)]


class TestErrors(unittest.TestCase):

    def test_no_other_errors(self):
        found = [name for name, value in vars(errors).items() if isinstance(value, type)]
        self.assertEqual(sorted(found), sorted([*FIELDS, "PostError"]))

    def test_fields_by_position_and_by_name(self):
        values = any_values()
        for name, fields in FIELDS.items():
            for at in range(len(values)):
                self.check_fields(getattr(errors, name), fields, [values[at], values[at - 1]][:len(fields)])

    def check_fields(self, made, fields, told):
        """Makes an error in each way that its fields can be passed, and looks at it."""
        pairs = list(zip(fields, told))
        ways = [made(*told), made(**dict(pairs)), made(**dict(reversed(pairs))), made(*told[:1], **dict(pairs[1:]))]
        for error in ways:
            self.assertIsInstance(error, errors.PostError)
            self.assertIsInstance(error, ValueError)
            self.assertEqual(tuple(vars(error)), fields)
            for field, value in pairs:
                self.assertIs(getattr(error, field), value)

    def test_classes_above(self):
        for name, fields in FIELDS.items():
            made = getattr(errors, name)
            self.assertEqual(made.__bases__, (errors.PostError,))
            error = made(*[0 for _ in fields])
            self.assertIsInstance(error, ValueError)
            others = [other for other in FIELDS if other != name]
            self.assertFalse([other for other in others if isinstance(error, getattr(errors, other))])
        self.assertEqual(errors.PostError.__bases__, (ValueError,))

    def test_wrong_number_of_fields(self):
        for name, fields in FIELDS.items():
            made = getattr(errors, name)
            self.assertRaises(TypeError, made)
            self.assertRaises(TypeError, made, *range(len(fields) + 1))

    def test_each_has_its_own_init(self):
        for name, fields in {**FIELDS, "PostError": ("*told",)}.items():
            made = vars(getattr(errors, name))["__init__"]
            self.assertEqual(str(inspect.signature(made)), "(self, " + ", ".join(fields) + ")", name)

    def check_base(self, told):
        """Makes and raises a PostError of some values; it has no fields."""
        for caught_by in (errors.PostError, ValueError):
            with self.assertRaises(caught_by) as caught:
                raise errors.PostError(*told)
            self.assertIs(type(caught.exception), errors.PostError)
            self.assertIsInstance(caught.exception, ValueError)
            self.assertEqual(vars(caught.exception), {})

    def test_base_without_values(self):
        self.check_base(())
        self.assertRaises(ValueError, self.raise_bare)

    def raise_bare(self):
        """Raises the class itself, which Python makes without values."""
        raise errors.PostError

    def test_base_with_one_value_of_each_kind(self):
        for value in any_values():
            self.check_base((value,))

    def test_base_with_several_values(self):
        kinds = (5, True, None, "x", [1], (2, "y"), {"a": [3]}, Row(0, 1, 2), errors.PostError(5), errors.BadText(1, 2))
        for many in (2, 3):
            for told in itertools.product(kinds, repeat=many):
                self.check_base(told)
        self.check_base(tuple(any_values()))
        self.check_base((5, [1], None))

    def test_values_stay_as_they_are(self):
        row, table = [1, [2]], {"a": [3]}
        errors.PostError(row, table)
        for name, fields in FIELDS.items():
            getattr(errors, name)(*[row, table][:len(fields)])
        self.assertEqual((row, table), ([1, [2]], {"a": [3]}))

    def test_what_functions_raise(self):
        """Each class is raised by some function, and caught by its own name, by that of the base and as a ValueError."""
        sheet, stamp, station = helpers.small_sheet(), Stamp.digits(5), Station(1, ((0, 1),))
        line = helpers.small_line()
        book = Ledger(line, Jumble(1, 1))
        calls = {
            "BadValue": lambda: Zone(0, 1), "BadRow": lambda: Row(1, 1, 0), "BadSheet": lambda: Sheet((Panel(1, 1),), (0,), (Cell(1, 0, 0),)),
            "BadStation": lambda: Station(1, ((0, 2),)), "BadStamp": lambda: Stamp(), "BadLine": lambda: Line(sheet, stamp),
            "NoPlacing": lambda: Line(sheet, stamp, Station(1, ((0, 1),), [Row(1, 0, -1)])), "TooMany": lambda: Line(sheet, stamp, *[station] * 4),
            "BadRun": lambda: Run(0, (-1,)), "NotForced": lambda: reader(line, Jumble(9, 9)), "Unfit": lambda: reader(line, Jumble()).take(("9",)),
            "BadRecord": lambda: book.take(3), "NoHistory": lambda: book.take(("x",)), "NothingKept": lambda: Post(line, Jumble()).undo(),
            "BadText": lambda: Row.read(""), "BadAsk": lambda: Desk(line, Jumble()).ask(""), "BadShelf": lambda: Shelf(sheet, 0), "NoName": lambda: Shelf(sheet)["a"],
        }
        self.assertEqual(sorted(calls), sorted(FIELDS))
        for name, call in calls.items():
            for caught in (getattr(errors, name), errors.PostError, ValueError):
                with self.assertRaises(caught) as told:
                    call()
                self.assertIs(type(told.exception), getattr(errors, name))
                self.assertEqual(tuple(vars(told.exception)), FIELDS[name])

    def test_caught_as_value_error(self):
        with self.assertRaises(ValueError) as caught:
            raise errors.BadText(3, 4)
        self.assertEqual((caught.exception.at, caught.exception.word), (3, 4))


if __name__ == "__main__":
    unittest.main()
