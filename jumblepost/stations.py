"""Stations: envelopes with panes through which a camera looks."""

from jumblepost.common import Words, are_integers, is_between, is_series
from jumblepost.errors import BadStation, BadValue
from jumblepost.rows import LEAST_MOST, MOST_MOST, MOST_POINT, Row

MOST_ROWS = 12


def is_pair(value):
    """Whether any value is a pair of integers."""
    return isinstance(value, tuple) and len(value) == 2 and are_integers(value)


def check_panes(panes, width):
    """Raises the error for the first pane that does not lie as it must."""
    free = 0
    for index, (left, right) in enumerate(panes):
        if not free <= left < right <= width:
            raise BadStation("pane", index)
        # Between two panes there is a bar of a step at least.
        free = right + 1


def are_pushes(rows):
    """Whether all values are Rows, and no more than a station may have."""
    return len(rows) <= MOST_ROWS and all([isinstance(row, Row) for row in rows])


def station_words(station):
    """The words and integers of the text of a station."""
    sides = [side for pane in station.panes for side in pane]
    parts = [part for row in station.rows for part in (row.one, row.other, row.most)]
    return (["station", station.width, "panes", len(station.panes)] + sides
            + ["rows", len(station.rows)] + parts + ["either" if station.either else "plain"])


def read_triple(words):
    """The three integers of a row; two equal points can stand."""
    one = words.integer(0, MOST_POINT)
    other = words.integer(0, MOST_POINT)
    return one, other, words.integer(LEAST_MOST, MOST_MOST)


def read_pane(words, widest):
    """The two sides of a pane, which need not fit the envelope yet."""
    left = words.integer(0, widest)
    return left, words.integer(0, widest)


def read_either(words):
    """Whether the last word lets letters lie either way."""
    if words.comes("either"):
        return True
    words.skip("plain")
    return False


class Station:
    """An envelope, its panes, the rows that hold there, and whether letters may lie turned."""

    MOST_PANES = 3
    WIDEST = 60

    def __init__(self, width, panes, rows=(), either=False):
        if not is_between(width, 1, Station.WIDEST):
            raise BadValue("width")
        if not is_series(panes) or not 1 <= len(panes) <= Station.MOST_PANES:
            raise BadValue("panes")
        if not all([is_pair(pane) for pane in panes]):
            raise BadValue("panes")
        if not is_series(rows) or not are_pushes(rows):
            raise BadValue("rows")
        if not isinstance(either, bool):
            raise BadValue("either")
        check_panes(panes, width)
        self.width = width
        self.panes = tuple(panes)
        self.rows = tuple(rows)
        self.either = either

    def __eq__(self, other):
        return (isinstance(other, Station) and self.width == other.width
                and self.panes == other.panes and self.rows == other.rows
                and self.either == other.either)

    def __str__(self):
        return " ".join([str(word) for word in station_words(self)])

    def pushed(self, *rows):
        """The station with more rows behind its own ones."""
        return Station(self.width, self.panes, self.rows + rows, self.either)

    @classmethod
    def read(cls, text):
        """The station whose text this is."""
        words = Words(text)
        words.skip("station")
        width = words.integer(1, cls.WIDEST)
        words.skip("panes")
        many = words.integer(1, cls.MOST_PANES)
        panes = [read_pane(words, Station.WIDEST) for _ in range(many)]
        words.skip("rows")
        many = words.integer(0, MOST_ROWS)
        triples = [read_triple(words) for _ in range(many)]
        either = read_either(words)
        words.finish()
        rows = [Row(one, other, most) for one, other, most in triples]
        return cls(width, panes, rows, either)
