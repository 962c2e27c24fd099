"""Looks at greatest rules, least designs and cheapest choices, without a table of their own."""

from jumblepost.changes import are_indexes, at_stations, check_pane
from jumblepost.common import is_between, is_integer
from jumblepost.errors import BadValue, TooMany
from jumblepost.greatest import Greatest, check_part, with_part
from jumblepost.jumbles import Jumble
from jumblepost.least import Least, station_choices, widest_pane, with_width
from jumblepost.look_forced import look_forced, look_twins
from jumblepost.shelves import Cheapest, check_shelf, lies_within
from jumblepost.twins import check_jumble


def look_forced_by(paper, line, jumble):
    """Whether paper is a Forced for a line and a jumble."""
    return look_forced(paper, line) and paper.jumble == jumble


def look_twins_by(paper, line, jumble):
    """Whether paper is a Twins for a line and a jumble."""
    return look_twins(paper, line) and paper.jumble == jumble


def look_greatest(paper, line, jumble, part):
    """Whether paper is a Greatest for a line, a jumble and a part of it."""
    check_jumble(line, jumble)
    check_part(part)
    if not isinstance(paper, Greatest):
        return False
    if paper.amount is None:
        return paper.forced is None and look_twins_by(paper.beyond, line, with_part(jumble, part, 0))
    if not is_between(paper.amount, 0, Jumble.MOST):
        return False
    if not look_forced_by(paper.forced, line, with_part(jumble, part, paper.amount)):
        return False
    if paper.amount == Jumble.MOST:
        return paper.beyond is None
    return look_twins_by(paper.beyond, line, with_part(jumble, part, paper.amount + 1))


def are_lesser(paper, many):
    """Whether the lesser papers of a Least are a tuple of so many; without an amount none is forced."""
    if not isinstance(paper.lesser, tuple) or len(paper.lesser) != many:
        return False
    return paper.amount is not None or paper.forced is None


def look_pane(paper, line, station_at, pane_at, jumble):
    """Whether paper is a Least for the widths of a pane of a line and a jumble."""
    check_pane(line, station_at, pane_at)
    if not isinstance(jumble, Jumble):
        raise BadValue("jumble")
    if not isinstance(paper, Least):
        return False
    most = widest_pane(line, station_at, pane_at)
    if paper.amount is not None and not is_between(paper.amount, 1, most):
        return False
    if not are_lesser(paper, most if paper.amount is None else paper.amount - 1):
        return False
    for width, twins in enumerate(paper.lesser, start=1):
        if not look_twins_by(twins, with_width(line, station_at, pane_at, width), jumble):
            return False
    if paper.amount is None:
        return True
    return look_forced_by(paper.forced, with_width(line, station_at, pane_at, paper.amount), jumble)


def is_choice(value, line):
    """Whether any value is a tuple of ascending indexes of stations of a line."""
    return isinstance(value, tuple) and are_indexes(value, len(line.stations))


def look_stations(paper, line, jumble):
    """Whether paper is a Least for the stations of a line and a jumble."""
    check_jumble(line, jumble)
    if not isinstance(paper, Least) or (paper.amount is not None and not is_choice(paper.amount, line)):
        return False
    choices = station_choices(line)
    if not are_lesser(paper, len(choices) if paper.amount is None else choices.index(paper.amount)):
        return False
    for choice, twins in zip(choices, paper.lesser):
        if not look_twins_by(twins, at_stations(line, *choice), jumble):
            return False
    if paper.amount is None:
        return True
    amount = paper.amount
    return look_forced_by(paper.forced, at_stations(line, *amount), jumble)


def is_bar(value, shelf, jumble):
    """Whether any value is a pair of a selection, of which a line can be made, and a Twins for it."""
    if not isinstance(value, tuple) or len(value) != 2 or shelf.price_of(value[0]) is None:
        return False
    try:
        line = shelf.chosen(value[0])
    except TooMany:
        return False
    return look_twins_by(value[1], line, jumble)


def bars_better(paper, shelf):
    """Whether the bars of a Cheapest bar all selections that are better than its one, or all without one.

    Raises if a line cannot be made of one of these, all better ones being barred.
    """
    for names in shelf.selections():
        if names == paper.names:
            return True
        shelf.chosen(names)
        if not any([lies_within(names, others) for others, _ in paper.bars]):
            return False
    return True


def has_price(paper, shelf):
    """Whether a Cheapest has a selection and its price, or neither of them and nothing that is forced."""
    if paper.names is None:
        return paper.price is None and paper.forced is None
    price = shelf.price_of(paper.names)
    return price is not None and is_integer(paper.price) and paper.price == price


def look_cheapest(paper, shelf, jumble):
    """Whether paper is a Cheapest for a shelf and a jumble."""
    check_shelf(shelf, jumble)
    if not isinstance(paper, Cheapest) or not has_price(paper, shelf) or not isinstance(paper.bars, tuple):
        return False
    if not all([is_bar(bar, shelf, jumble) for bar in paper.bars]):
        return False
    if not bars_better(paper, shelf):
        return False
    return paper.names is None or look_forced_by(paper.forced, shelf.chosen(paper.names), jumble)
