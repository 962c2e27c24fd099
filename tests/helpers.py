"""What several tests need: odd values, raised errors, changed texts, examples of the document."""

import ast
import re

from jumblepost import errors
from jumblepost.desk import Desk
from jumblepost.forced import Forced
from jumblepost.greatest import Greatest
from jumblepost.jumbles import Jumble
from jumblepost.least import Least
from jumblepost.ledger import Ledger, LedgerTable, Second
from jumblepost.lines import Line
from jumblepost.met import MetForced, MetTwins
from jumblepost.once import OnceTwins
from jumblepost.post import Post
from jumblepost.rows import Row
from jumblepost.runs import Run
from jumblepost.sheets import Cell, Panel, Sheet
from jumblepost.shelves import Cheapest, Shelf
from jumblepost.sightings import Alike, Sighting
from jumblepost.spans import SpanTable
from jumblepost.stamps import Stamp
from jumblepost.stations import Station
from jumblepost.steady import SteadyRun
from jumblepost.store import Store
from jumblepost.texts import Setting
from jumblepost.twins import Twins
from jumblepost.unread import reader
from jumblepost.views import Sight
from jumblepost.wheels import Wheel
from jumblepost.zones import Chain, Ring, Zone


def plain_oddities():
    """Plain values of many kinds; the integers among them are beyond most bounds."""
    return [
        None, True, False, -1, 10 ** 60, -10 ** 60, 10 ** 61 - 1, "", "0", "x", "a b", "\n", "~" * 6000,
        (), (None,), (True, False), ((True,),), ((((((((1,),),),),),),),), [], [[]], [0], [1] * 3000,
        {}, {"a": [1]}, {1: {2: ()}},
    ]


def small_sheet():
    """A sheet of one panel and one cell."""
    return Sheet((Panel(1, 1),), (0,), (Cell(0, 0, 0),))


def small_line():
    """A line with one digit."""
    return Line(small_sheet(), Stamp.digits(5), Station(1, ((0, 1),)))


def objects():
    """An object of each class."""
    return [
        Row(0, 1, 2), Zone(2, 3), Ring(()), Chain(()), Panel(1, 2), Cell(0, 0, 0), small_sheet(),
        Station(3, ((0, 1),)), errors.BadValue("x"), Sight(((0,),), (0, 0, 1), False), Sight(None, 1, [2]),
        Wheel.digits(7), Stamp.digits(7), small_line(),
        Sighting(0, (0,), (), ("0",)), Alike(None, 3), SpanTable(1, ()), Jumble(1, 2, 3), Run(3, (4,), (5,)),
        Twins(Jumble(), 0, Run(0), Run(0), (), ()), Forced(Jumble(), None), Store(3), reader(small_line(), Jumble(1, 1)),
        Ledger(small_line(), Jumble(1, 1)), LedgerTable(Jumble(), (), 0, ((((), 1, 1),),)), Second(Jumble(), (), 0, 0, (), ()),
        SteadyRun(1, 2, 3, (0, 2)), MetForced(1, 1, 0, None, ()), MetTwins(1, 1, 0, None, None, ()), OnceTwins(1, 1, 0, None, None, ()),
        Greatest(0, None, None), Least(1, None, ()), Cheapest(("a", "b"), 0, None, ()), Shelf(small_sheet(), ("a", Stamp.digits(5), 1)),
        Post(small_line(), Jumble(1, 1)), Setting(small_line(), Jumble()), Desk(small_line(), Jumble()),
    ]


def odd_values():
    """Values of all kinds."""
    return plain_oddities() + objects()


def raised(call, *args, **more):
    """The name and the fields of the error that a call raises, None if it raises none."""
    try:
        call(*args, **more)
    except errors.PostError as error:
        return (type(error).__name__, *vars(error).values())
    return None


def is_integer_word(word, least, most):
    """Whether a word is an integer within these bounds, as str writes it."""
    return re.fullmatch("0|-?[1-9][0-9]{0,70}", word) is not None and least <= int(word) <= most


COMMON_WORDS = ("", "0", "1", "-1", "-0", "01", "+1", "x", "x1", "1\n", "61", "9" * 5000, "_", "1.0", "~", "plain")


def changed_texts(text, words=()):
    """Texts with one word changed, put in, left out, doubled or exchanged, or the end cut off."""
    parts = text.split(" ")
    changed = [text + "\n", "\n" + text, text.replace(" ", "  ", 1), text.upper(), ""]
    for at in range(len(parts) + 1):
        changed.extend([" ".join(parts[:at] + [word] + parts[at:]) for word in (*COMMON_WORDS, *words)])
    for at in range(len(parts)):
        changed.extend([" ".join(parts[:at] + [word] + parts[at + 1:]) for word in (*COMMON_WORDS, *words)])
        changed.append(" ".join(parts[:at] + parts[at + 1:]))
        changed.append(" ".join(parts[:at] + [parts[at]] + parts[at:]))
        changed.append(" ".join(parts[:at] + parts[at:at + 2][::-1] + parts[at + 2:]))
        changed.append(" ".join(parts[:at]))
    return changed


def wrong_word(text, follows, whole):
    """The index of the word that BadText tells, None if the text can stand.

    follows(words, word) tells whether a word can stand behind others that can; whole(words)
    whether words that can stand are a whole text.
    """
    parts = text.split(" ")
    for at, part in enumerate(parts):
        if not follows(parts[:at], part):
            return at
    return None if whole(parts) else len(parts)


class Examples:
    """Runs examples of the document, one behind the other, with the names that they bind."""

    def __init__(self, case):
        self.case = case
        self.names = {}

    def run(self, text):
        """Runs the rows of a text; a row that does not begin with the sign is what is told."""
        rows = text.strip().split("\n")
        for at, row in enumerate(rows):
            if row.startswith(">>> "):
                told = rows[at + 1] if at + 1 < len(rows) else ">>> "
                self.check(row.removeprefix(">>> "), told)

    def check(self, code, told):
        """Runs one row of code."""
        if told.startswith(">>> "):
            exec(code, self.names)
        elif told.startswith("raises "):
            self.check_error(code, ast.parse(told.removeprefix("raises "), mode="eval").body)
        else:
            self.case.assertEqual(repr(eval(code, self.names)), told, code)

    def check_error(self, code, told):
        """Runs one row of code that raises an error; of some errors the name alone is told."""
        name = told.id if isinstance(told, ast.Name) else told.func.id
        with self.case.assertRaises(getattr(errors, name), msg=code) as caught:
            eval(code, self.names)
        if isinstance(told, ast.Call):
            fields = tuple([ast.literal_eval(field) for field in told.args])
            self.case.assertEqual(tuple(vars(caught.exception).values()), fields, code)
