"""Distances: which ones are alike."""

from jumblepost.common import MOST_FIRST, is_between
from jumblepost.errors import BadValue
from jumblepost.links import START, Pairing, pairs_of_shape
from jumblepost.looks import check_line
from jumblepost.spans import pair_at, span_table

MOST_BOUND = 60


def alike_at(line, distance):
    """An Alike of two numbers, the first one below the cycle, so far apart; None if there is none."""
    check_line(line)
    if not is_between(distance, 1, MOST_FIRST):
        raise BadValue("distance")
    # The table is bounded, so the walk for one distance, through fewer states, is too.
    span_table(line)
    return pair_at(line, distance)


def near_behind(pairing, index, level, weight, most):
    """The values up to most with which steps lead to each state behind a wheel."""
    found = {}
    for state, near in level.items():
        for behind, step, _ in pairing.steps(index, state):
            totals = [value + step * weight for value in near if value + step * weight <= most]
            if len(totals) > 0:
                table = found.setdefault(behind, {})
                for total in totals:
                    table[total] = True
    return found


def near_values(pairing, most):
    """The distances from 0 to most, below the cycle, that two views of one shape let be alike."""
    level = {START: {0: True}}
    weight = 1
    for index, wheel in enumerate(pairing.stamp.wheels):
        level = near_behind(pairing, index, level, weight, most)
        weight = weight * wheel.size
    return [value for near in level.values() for value in near]


def alike_distances(line, most):
    """The distances from 1 to most that are alike, ascending."""
    check_line(line)
    if not is_between(most, 0, MOST_BOUND):
        raise BadValue("most")
    span_table(line)
    known = {0: True}
    for view, other in pairs_of_shape(line.views):
        for value in near_values(Pairing(line.stamp, view, other), most):
            known[value] = True
    return tuple([distance for distance in range(1, most + 1) if distance % line.stamp.cycle in known])
