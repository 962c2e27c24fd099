"""Looks at span tables, state by state."""

from jumblepost.common import is_between, is_integer, is_view
from jumblepost.links import START, Pairing, pairs_of_shape
from jumblepost.looks import check_line
from jumblepost.spans import SpanTable


def is_state(value, waits):
    """Whether any value is made as a state with so many waiting signs."""
    if not isinstance(value, tuple) or len(value) != 5:
        return False
    band, far_band, borrow, ahead, waiting = value
    if not is_between(band, 0, 2) or not is_between(far_band, 0, 2):
        return False
    if not is_between(borrow, 0, 1) or not is_between(ahead, 0, 1):
        return False
    return isinstance(waiting, str) and len(waiting) == waits


def is_valued_state(value, waits):
    """Whether any value is a pair of a state and an integer from 0 on."""
    if not isinstance(value, tuple) or len(value) != 2:
        return False
    return is_state(value[0], waits) and is_integer(value[1]) and value[1] >= 0


def is_level(value, waits):
    """Whether any value is a tuple of pairs (state, value), ascending by state."""
    if not isinstance(value, tuple) or not all([is_valued_state(pair, waits) for pair in value]):
        return False
    return all([pair[0] < behind[0] for pair, behind in zip(value, value[1:])])


def are_levels(value, pairing):
    """Whether any value is a tuple with a level for each wheel."""
    if not isinstance(value, tuple) or len(value) != len(pairing.parts):
        return False
    return all([is_level(level, pairing.many_waiting(index)) for index, level in enumerate(value)])


def lets_steps(levels, pairing):
    """Whether each possible step leads to a state with a value that is not too great."""
    ahead = {START: 0}
    weight = 1
    for index, wheel in enumerate(pairing.stamp.wheels):
        known = {state: value for state, value in levels[index]}
        for state, value in ahead.items():
            for behind, step, _ in pairing.steps(index, state):
                if behind not in known or known[behind] > value + step * weight:
                    return False
        ahead = known
        weight = weight * wheel.size
    return True


def is_entry(entry, pair, pairing, least):
    """Whether any value is the entry of a pair of views, and shows that no lesser distance is alike."""
    if not isinstance(entry, tuple) or len(entry) != 3:
        return False
    view, other, levels = entry
    if not is_view(view) or not is_view(other) or (view, other) != pair:
        return False
    if not are_levels(levels, pairing) or not lets_steps(levels, pairing):
        return False
    return all([value >= least for state, value in levels[-1] if state[3] == 1])


def look_table(paper, line):
    """Whether paper is a SpanTable that shows that no distance below its span is alike."""
    check_line(line)
    if not isinstance(paper, SpanTable) or not is_between(paper.span, 1, line.stamp.cycle):
        return False
    pairs = pairs_of_shape(line.views)
    if not isinstance(paper.tables, tuple) or len(paper.tables) != len(pairs):
        return False
    for entry, pair in zip(paper.tables, pairs):
        if not is_entry(entry, pair, Pairing(line.stamp, pair[0], pair[1]), paper.span):
            return False
    return True
