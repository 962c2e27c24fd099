"""Spans: the least distance of two numbers that can look alike, with the table that shows it."""

from jumblepost.errors import TooMany
from jumblepost.links import START, Pairing, pairs_of_shape
from jumblepost.looks import check_line
from jumblepost.sightings import alike
from jumblepost.stamps import due_figures

MOST_STATES = 4000


class SpanTable:
    """A paper: the span, and for each pair of views the least values of all states."""

    def __init__(self, span, tables):
        self.span = span
        self.tables = tables

    def __eq__(self, other):
        return isinstance(other, SpanTable) and self.span == other.span and self.tables == other.tables


def least_behind(pairing, index, level, weight, most):
    """The least values of the states behind a wheel; raises if there are more than so many."""
    found = {}
    for state, value in level.items():
        for behind, step, _ in pairing.steps(index, state):
            total = value + step * weight
            if behind not in found or total < found[behind]:
                found[behind] = total
        if len(found) > most:
            raise TooMany("states")
    return found


def least_levels(pairing, most):
    """For each wheel the least values of the states behind it, at most so many in all."""
    levels = []
    level = {START: 0}
    weight = 1
    for index, wheel in enumerate(pairing.stamp.wheels):
        level = least_behind(pairing, index, level, weight, most)
        most -= len(level)
        weight = weight * wheel.size
        levels.append(level)
    return levels


def span_table(line):
    """All states to which possible steps lead, with their least values, and the span."""
    check_line(line)
    tables = []
    least = line.stamp.cycle
    room = MOST_STATES
    for view, other in pairs_of_shape(line.views):
        levels = least_levels(Pairing(line.stamp, view, other), room)
        room -= sum([len(level) for level in levels])
        least = min([least] + [value for state, value in levels[-1].items() if state[3] == 1])
        tables.append((view, other, tuple([tuple(sorted(level.items())) for level in levels])))
    return SpanTable(least, tuple(tables))


def span(line):
    """The least distance of two numbers that can look alike."""
    return span_table(line).span


def number_by(pairing, steps):
    """A number below the cycle that can take these steps, one for each wheel, None if none can."""
    levels = [{START: None}]
    for index, wanted in enumerate(steps):
        found = {}
        for state in levels[-1]:
            for behind, step, due in pairing.steps(index, state):
                if step == wanted and behind not in found:
                    found[behind] = (state, due)
        levels.append(found)
    figures = []
    state = min(list(levels[-1]), default=None)
    if state is None:
        return None
    for level in levels[:0:-1]:
        state, due = level[state]
        figures.append(due)
    return pairing.stamp.value(tuple(figures[::-1]))


def pair_at(line, distance):
    """An Alike of a number below the cycle and the one so far above it, None if none are alike."""
    steps = due_figures(line.stamp.wheels, distance)
    for view, other in pairs_of_shape(line.views):
        number = number_by(Pairing(line.stamp, view, other), steps)
        if number is not None:
            return alike(line, number, number + distance)
    return None


def nearest_pair(line):
    """An Alike of two numbers, the first one below the cycle, whose distance is the span."""
    return pair_at(line, span(line))
