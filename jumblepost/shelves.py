"""Shelves: stamps and stations at their prices, and the cheapest choice that is enough."""

from jumblepost.common import few_of, is_between
from jumblepost.errors import BadShelf, BadValue, NoName, TooMany
from jumblepost.forced import decide
from jumblepost.jumbles import Jumble
from jumblepost.lines import Line
from jumblepost.sheets import Sheet
from jumblepost.stamps import Stamp
from jumblepost.stations import Station
from jumblepost.twins import Twins
from jumblepost.views import views

LETTERS = "abcdefghijklmnopqrstuvwxyz"
MOST_NAME = 8
MOST_PRICE = 10 ** 12
MOST_ROWS = 6


def is_name(value):
    """Whether any value is a string of 1 to 8 letters."""
    if not isinstance(value, str) or not 1 <= len(value) <= MOST_NAME:
        return False
    return all([letter in LETTERS for letter in value])


def check_thing(sheet, thing, index):
    """Raises the error if a stamp or a station does not go with the sheet."""
    if isinstance(thing, Stamp):
        if thing.signs != len(sheet.cells):
            raise BadShelf("cells", index)
    elif len(views(sheet, thing)) == 0:
        raise BadShelf("placing", index)


def check_row(sheet, rows, index):
    """Raises the first error that is due for a row of a shelf."""
    row = rows[index]
    if not isinstance(row, tuple) or len(row) != 3:
        raise BadShelf("row", index)
    name, thing, price = row
    if not is_name(name) or name in [earlier[0] for earlier in rows[:index]]:
        raise BadShelf("name", index)
    if not isinstance(thing, Stamp) and not isinstance(thing, Station):
        raise BadShelf("thing", index)
    if not is_between(price, 0, MOST_PRICE):
        raise BadShelf("price", index)
    check_thing(sheet, thing, index)


def choices_of(table):
    """All selections of a table of names, with their prices, the better ones first."""
    stamps = [name for name in sorted(table) if isinstance(table[name][0], Stamp)]
    stations = [name for name in sorted(table) if isinstance(table[name][0], Station)]
    found = [(stamp, *few) for stamp in stamps for few in few_of(stations, Line.MOST_STATIONS)]
    priced = [(sum([table[name][1] for name in names]), len(names), names) for names in found]
    return [(names, price) for price, _, names in sorted(priced)]


class Shelf:
    """Named stamps and stations for one sheet, each at its price."""

    def __init__(self, sheet, *rows):
        if not isinstance(sheet, Sheet):
            raise BadValue("sheet")
        if len(rows) > MOST_ROWS:
            raise TooMany("rows")
        for index in range(len(rows)):
            check_row(sheet, rows, index)
        self.sheet = sheet
        self.rows = rows
        self.stock = {name: (thing, price) for name, thing, price in rows}
        self.names = tuple(sorted(self.stock))
        self.choices = tuple(choices_of(self.stock))

    def __len__(self):
        return len(self.names)

    def __iter__(self):
        return iter(self.names)

    def __contains__(self, x):
        return isinstance(x, str) and x in self.names

    def __getitem__(self, at):
        if not isinstance(at, str) or at not in self.names:
            raise NoName(at)
        return self.stock[at]

    def __eq__(self, other):
        return isinstance(other, Shelf) and self.sheet == other.sheet and self.stock == other.stock

    def beside(self, *rows):
        """The shelf with more rows behind the others."""
        every = self.rows + rows
        return Shelf(self.sheet, *every)

    def without(self, *names):
        """The shelf without the rows of these names."""
        for name in names:
            if name not in self:
                raise NoName(name)
        rest = [row for row in self.rows if row[0] not in names]
        return Shelf(self.sheet, *rest)

    def selections(self):
        """Yields all selections, the better ones first."""
        for names, _ in self.choices:
            yield names

    def price_of(self, names):
        """The price of a selection, None for any value that is none."""
        for choice, price in self.choices:
            if isinstance(names, tuple) and names == choice:
                return price
        return None

    def cost(self, names):
        """The price of a selection."""
        price = self.price_of(names)
        if price is None:
            raise BadValue("names")
        return price

    def chosen(self, names):
        """The line of a selection."""
        if self.price_of(names) is None:
            raise BadValue("names")
        stamp = self.stock[names[0]][0]
        stations = [self.stock[name][0] for name in names[1:]]
        return Line(self.sheet, stamp, *stations)


class Cheapest:
    """A paper, false without names: the best selection that is forced, and what bars better ones."""

    def __init__(self, names, price, forced, bars):
        self.names = names
        self.price = price
        self.forced = forced
        self.bars = bars

    def __eq__(self, other):
        return (isinstance(other, Cheapest) and self.names == other.names and self.price == other.price
                and self.forced == other.forced and self.bars == other.bars)

    def __bool__(self):
        return self.names is not None


def lies_within(names, others):
    """Whether a selection has the stamp of another one, and none but its stations."""
    return names[0] == others[0] and all([name in others[1:] for name in names[1:]])


def greatest_bars(bars):
    """Those of some pairs (selection, paper) whose selections lie within no other one."""
    return tuple([
        (names, paper) for names, paper in bars
        if len([others for others, _ in bars if lies_within(names, others)]) == 1
    ])


def check_shelf(shelf, jumble):
    """Raises the errors for values that are no shelf and no jumble."""
    if not isinstance(shelf, Shelf):
        raise BadValue("shelf")
    if not isinstance(jumble, Jumble):
        raise BadValue("jumble")


def cheapest(shelf, jumble):
    """The Cheapest of the selections of a shelf that are forced with a jumble."""
    check_shelf(shelf, jumble)
    bars = []
    for names in shelf.selections():
        paper = decide(shelf.chosen(names), jumble)
        if not isinstance(paper, Twins):
            return Cheapest(names, shelf.cost(names), paper, greatest_bars(bars))
        bars.append((names, paper))
    return Cheapest(None, None, None, greatest_bars(bars))
