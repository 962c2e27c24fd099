"""Zones: all placings at which some rows hold, and the chains and rings that prove it."""

from jumblepost.common import is_between, is_series
from jumblepost.errors import BadRow, BadValue, NoPlacing
from jumblepost.rows import Row

MOST_POINTS = 12
MOST_WIDTH = 10 ** 6 - 1


class Ring:
    """A paper: rows that lead from a point to itself."""

    def __init__(self, rows):
        self.rows = rows

    def __eq__(self, other):
        return isinstance(other, Ring) and self.rows == other.rows


class Chain:
    """A paper: rows that lead from a point to another one."""

    def __init__(self, rows):
        self.rows = rows

    def __eq__(self, other):
        return isinstance(other, Chain) and self.rows == other.rows


def is_row_below(value, points):
    """Whether a value is a Row of points below this number of them."""
    return isinstance(value, Row) and max(value.one, value.other) < points


def without_repeats(rows):
    """The rows in their order, equal ones once."""
    table = {}
    for row in rows:
        key = (row.one, row.other, row.most)
        if key not in table:
            table[key] = row
    return tuple([table[key] for key in table])


def walls_of(points, width):
    """The walls of a zone, as rows."""
    right = [Row(point, 0, width) for point in range(1, points)]
    left = [Row(0, point, 0) for point in range(1, points)]
    return tuple(right + left)


def narrowed(gaps, one, other, most):
    """The gaps of a zone with one more row, None if no placing is left.

    A least chain needs the new row once at most, so the old gaps on both sides of it are enough.
    """
    if gaps[one][other] <= most:
        return gaps
    if gaps[other][one] + most < 0:
        return None
    behind = gaps[other]
    return tuple([
        tuple([min(gap, row[one] + most + rest) for gap, rest in zip(row, behind)])
        for row in gaps
    ])


def gaps_of(points, width, rows):
    """For each two points the greatest difference of their places, None without a placing."""
    # Between the walls alone a point can lie anywhere, whatever the others do.
    gaps = tuple([
        tuple([0 if one in (0, other) else width for other in range(points)])
        for one in range(points)
    ])
    for row in rows:
        gaps = narrowed(gaps, row.one, row.other, row.most)
        if gaps is None:
            return None
    return gaps


def lowest_of(gaps):
    """The placing with each point at its least place."""
    return tuple([-gap for gap in gaps[0]])


def highest_of(gaps):
    """The placing with each point at its greatest place."""
    return tuple([row[0] for row in gaps])


def least_from(gaps, head):
    """The least placing that begins with these places, which go on to one."""
    places = list(head)
    for point in range(len(head), len(gaps)):
        least = max([places[ahead] - gaps[ahead][point] for ahead in range(point)])
        places.append(least)
    return tuple(places)


def placing_behind(gaps, places):
    """The placing that comes next behind this one, None behind the last one."""
    for point in range(len(places) - 1, 0, -1):
        most = min([places[ahead] + gaps[point][ahead] for ahead in range(point)])
        if places[point] < most:
            return least_from(gaps, places[:point] + (places[point] + 1,))
    return None


def last_rows(points, rows, start):
    """For each point the last row of a least chain from start; and a point that never settles.

    Chains without a ring have fewer rows than there are points. So a point that still changes
    when all rows were gone through that often lies behind a ring with a sum below 0.
    """
    sums = [None] * points
    last = [None] * points
    sums[start] = 0
    for _ in range(points):
        changed = None
        for row in rows:
            if sums[row.one] is None:
                continue
            total = sums[row.one] + row.most
            if sums[row.other] is None or total < sums[row.other]:
                sums[row.other] = total
                last[row.other] = row
                changed = row.other
        if changed is None:
            return last, None
    return last, changed


def rows_back(last, end, start):
    """The rows that lead from start to end, by the last row for each point."""
    rows = [last[end]]
    while rows[-1].one != start:
        rows.append(last[rows[-1].one])
    return tuple(rows[::-1])


class Zone:
    """Points from 0 on, of which 0 lies at 0, the others up to width, and rows that hold."""

    def __init__(self, points, width, rows=()):
        if not is_between(points, 1, MOST_POINTS):
            raise BadValue("points")
        if not is_between(width, 0, MOST_WIDTH):
            raise BadValue("width")
        if not is_series(rows):
            raise BadValue("rows")
        for index, row in enumerate(rows):
            if not is_row_below(row, points):
                raise BadRow(index)
        self.points = points
        self.width = width
        self.rows = without_repeats(rows)
        self.gaps = gaps_of(points, width, self.rows)

    def __and__(self, other):
        if is_row_below(other, self.points):
            return Zone(self.points, self.width, self.rows + (other,))
        if not isinstance(other, Zone) or other.points != self.points or other.width != self.width:
            raise BadValue("other")
        return Zone(self.points, self.width, self.rows + other.rows)

    def __contains__(self, x):
        if not is_row_below(x, self.points):
            return False
        return self.gaps is None or self.gaps[x.one][x.other] <= x.most

    def __bool__(self):
        return self.gaps is not None

    def __eq__(self, other):
        return (isinstance(other, Zone) and self.points == other.points
                and self.width == other.width and self.gaps == other.gaps)

    def gap(self, one, other):
        """The greatest difference of the places of these points."""
        if not is_between(one, 0, self.points - 1):
            raise BadValue("one")
        if not is_between(other, 0, self.points - 1):
            raise BadValue("other")
        if self.gaps is None:
            raise NoPlacing(0)
        return self.gaps[one][other]

    def lowest(self):
        """The placing with each point at its least place."""
        if self.gaps is None:
            raise NoPlacing(0)
        return lowest_of(self.gaps)

    def highest(self):
        """The placing with each point at its greatest place."""
        if self.gaps is None:
            raise NoPlacing(0)
        return highest_of(self.gaps)

    def placings(self):
        """Yields all placings, ascending."""
        places = None if self.gaps is None else least_from(self.gaps, (0,))
        while places is not None:
            yield places
            places = placing_behind(self.gaps, places)

    def ring(self):
        """A Ring with a sum below 0, None if there is a placing."""
        if self.gaps is not None:
            return None
        last, point = last_rows(self.points, self.rows + walls_of(self.points, self.width), 0)
        # The way back may still have to enter the ring; behind so many rows it has.
        for _ in range(self.points):
            point = last[point].one
        return Ring(rows_back(last, point, point))

    def chain(self, one, other):
        """A Chain from one to other with the least sum."""
        if not is_between(one, 0, self.points - 1):
            raise BadValue("one")
        if not is_between(other, 0, self.points - 1) or other == one:
            raise BadValue("other")
        if self.gaps is None:
            raise NoPlacing(0)
        last, _ = last_rows(self.points, self.rows + walls_of(self.points, self.width), one)
        return Chain(rows_back(last, other, one))
