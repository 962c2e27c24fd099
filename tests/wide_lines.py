"""Lines that are made for one purpose: of a given span, and with tables of a given size."""

from jumblepost.lines import Line
from jumblepost.rows import Row
from jumblepost.sheets import Cell, Panel, Sheet
from jumblepost.stamps import Stamp
from jumblepost.stations import Station
from jumblepost.wheels import Wheel


def strip(stamp):
    """A firm panel with a cell of one step for each sign."""
    return Sheet((Panel.firm(stamp.signs),), (0,), [Cell(0, 0, at) for at in range(stamp.signs)])


def seen_line(*sizes):
    """A line on which all signs are seen: its span is the product of the sizes."""
    stamp = Stamp.digits(*sizes)
    return Line(strip(stamp), stamp, Station(stamp.signs, ((0, stamp.signs),)))


def blind_line(*sizes):
    """A line on which no sign is seen: its span is 1."""
    stamp = Stamp.digits(*sizes)
    return Line(strip(stamp), stamp, Station(stamp.signs + 2, ((stamp.signs, stamp.signs + 1),), [Row(1, 0, 0)]))


def sliding_line(sizes, lags, order, *stations):
    """A firm panel whose cells bear the signs in another order, and slide."""
    stamp = Stamp(*[Wheel.digits(size, lag) for size, lag in zip(sizes, lags)])
    sheet = Sheet((Panel.firm(len(sizes)),), (0,), [Cell(0, 0, at) for at in order])
    return Line(sheet, stamp, *[Station(width, (pane,)) for width, pane in stations])


def near_line(figure, distance):
    """A wheel of ten faces, of which two alone look alike: a figure and the one so far above it."""
    signs = [str(at) for at in range(10)]
    signs[figure + distance] = signs[figure]
    stamp = Stamp(Wheel([sign + str(at) for at, sign in enumerate(signs)]))
    return Line(strip(stamp), stamp, Station(2, ((0, 1),)))


def just_4000():
    """Lines with tables of just 4,000 states."""
    return [
        sliding_line((4, 4, 2, 5), (0, 0, 3, 0), (2, 1, 3, 0), (6, (0, 2)), (6, (3, 4)), (5, (1, 3))),
        sliding_line((7, 6, 7, 3), (0, 0, 0, 0), (1, 0, 2, 3), (7, (4, 5)), (4, (0, 3)), (6, (1, 4))),
    ]


def above_4000():
    """Lines with tables of 4,001 to 4,006 states, each with the number."""
    return [
        (sliding_line((9, 10, 8, 5), (0, 2, 0, 0), (2, 0, 3, 1), (6, (1, 4))), 4001),
        (sliding_line((10, 6, 2, 5), (0, 0, 0, 2), (3, 0, 1, 2), (6, (3, 6)), (5, (3, 4)), (7, (5, 6))), 4002),
        (sliding_line((8, 4, 6, 7), (0, 0, 0, 0), (1, 2, 0, 3), (7, (1, 6)), (7, (1, 3))), 4002),
        (sliding_line((9, 3, 4), (0, 6, 0), (1, 2, 0), (5, (1, 4)), (6, (1, 5)), (3, (1, 2))), 4004),
        (sliding_line((10, 4, 4), (0, 0, 0), (0, 2, 1), (6, (4, 5)), (6, (4, 5)), (5, (3, 4))), 4005),
        (sliding_line((8, 9, 10), (0, 0, 0), (1, 2, 0), (4, (1, 2)), (3, (1, 2)), (4, (1, 3))), 4006),
    ]
