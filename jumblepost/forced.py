"""Forced: whether what is seen forces the numbers, with the paper that shows it."""

from jumblepost.spans import span_table
from jumblepost.twins import check_jumble, twins_at, unread_twins


class Forced:
    """A paper: a jumble, and the SpanTable of a line whose span is at least the need."""

    def __init__(self, jumble, table):
        self.jumble = jumble
        self.table = table

    def __eq__(self, other):
        return isinstance(other, Forced) and self.jumble == other.jumble and self.table == other.table


def is_met(jumble, least):
    """Whether a span meets the need of a jumble."""
    return jumble.need is not None and least >= jumble.need


def decided(line, jumble, table):
    """What decide returns for a line with this SpanTable."""
    if jumble.need is None:
        return unread_twins(line, jumble)
    if is_met(jumble, table.span):
        return Forced(jumble, table)
    return twins_at(line, jumble, table.span)


def decide(line, jumble):
    """Forced if a line and a jumble are forced, otherwise their Twins."""
    check_jumble(line, jumble)
    # No table, which can have too many states, is needed where no span is enough.
    table = None if jumble.need is None else span_table(line)
    return decided(line, jumble, table)


def is_forced(line, jumble):
    """Whether a line and a jumble are forced."""
    check_jumble(line, jumble)
    return jumble.need is not None and is_met(jumble, span_table(line).span)
