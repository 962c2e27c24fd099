"""Rows: bounds for the difference of the places of two points."""

from jumblepost.common import Words, are_integers, integer_of, is_between, is_series
from jumblepost.errors import BadRow, BadValue

MOST_POINT = 11
LEAST_MOST = -10 ** 6
MOST_MOST = 10 ** 6 - 1


def read_point(words):
    """The point that the next word names, from x0 to x11."""
    word = words.coming()
    if word is None or not word.startswith("x"):
        words.refuse()
    point = integer_of(word.removeprefix("x"))
    if not is_between(point, 0, MOST_POINT):
        words.refuse()
    words.skip(word)
    return point


class Row:
    """The place of one less the place of other is at most most."""

    def __init__(self, one, other, most):
        if not is_between(one, 0, MOST_POINT):
            raise BadRow(0)
        if not is_between(other, 0, MOST_POINT) or other == one:
            raise BadRow(1)
        if not is_between(most, LEAST_MOST, MOST_MOST):
            raise BadRow(2)
        self.one = one
        self.other = other
        self.most = most

    def __invert__(self):
        return Row(self.other, self.one, -self.most - 1)

    def __eq__(self, other):
        return (isinstance(other, Row) and self.one == other.one
                and self.other == other.other and self.most == other.most)

    def __str__(self):
        return f"x{self.one} - x{self.other} <= {self.most}"

    def holds(self, places):
        """Whether the row holds at these places."""
        if not is_series(places) or not are_integers(places):
            raise BadValue("places")
        if len(places) <= max(self.one, self.other):
            raise BadValue("places")
        return places[self.one] - places[self.other] <= self.most

    @classmethod
    def read(cls, text):
        """The row whose text this is."""
        words = Words(text)
        one = read_point(words)
        words.skip("-")
        other = read_point(words)
        words.skip("<=")
        most = words.integer(LEAST_MOST, MOST_MOST)
        words.finish()
        return cls(one, other, most)
