"""Forced: whether what is seen forces the numbers, with the paper that shows it."""

from jumblepost.spans import span_table
from jumblepost.twins import check_jumble, twins_at, unread_twins


class Forced:
    """A paper: a jumble, and the SpanTable of a line whose span is at least the need."""

    def __init__(self, jumble, table):
        self.jumble = jumble
        self.table = table

    def __eq__(self, other):
        return isinstance(other, Forced) and self.jumble == other.jumble and self.table == other.table


def decide(line, jumble):
    """Forced if a line and a jumble are forced, otherwise their Twins."""
    check_jumble(line, jumble)
    if jumble.need is None:
        return unread_twins(line, jumble)
    table = span_table(line)
    if table.span < jumble.need:
        return twins_at(line, jumble, table.span)
    return Forced(jumble, table)


def is_forced(line, jumble):
    """Whether a line and a jumble are forced."""
    check_jumble(line, jumble)
    return jumble.need is not None and span_table(line).span >= jumble.need
