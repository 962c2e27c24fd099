"""Looks at what decides whether lines are forced when met in the middle, or with one unread letter."""

from jumblepost.common import is_between, is_integer, is_number
from jumblepost.look_forced import are_alikes
from jumblepost.look_spans import look_table
from jumblepost.looks import check_line
from jumblepost.met import MetForced, MetTwins, unlike_pairs
from jumblepost.once import OnceTwins
from jumblepost.residues import MOST_NUMBERS, MOST_SPREAD, Steps, round_of
from jumblepost.steady import SteadyRun, front_of

# Behind so many places ahead of it two steady runs have each number at its own place.
NEAR = 12


def has_spread(paper, line):
    """Whether early and late of a paper make a spread with which the line comes round in time."""
    if not is_between(paper.early, 1, MOST_SPREAD) or not is_between(paper.late, 1, MOST_SPREAD):
        return False
    spread = paper.early + paper.late
    return spread <= MOST_SPREAD and round_of(line, spread) <= MOST_NUMBERS


def is_steady(value, paper, place):
    """Whether any value is a SteadyRun of the early and the late of a paper and of this place."""
    if not isinstance(value, SteadyRun) or value.early != paper.early or value.late != paper.late:
        return False
    return value.place == place


def look_alike_behind(paper, line, place):
    """Whether a paper has the Alikes of its two runs from a place on, once round."""
    pairs = unlike_pairs(paper.one, paper.other, place, round_of(line, paper.early + paper.late))
    return are_alikes(paper.alikes, line, pairs)


def are_met(paper, line):
    """Whether a MetTwins, whose place and spread are right, has two runs that look alike."""
    for run in (paper.one, paper.other):
        if not is_steady(run, paper, paper.place) or run.final is not None:
            return False
    return paper.one.ahead != paper.other.ahead and look_alike_behind(paper, line, paper.place)


def is_closed(value, number, steps):
    """Whether any value is an integer, some steps from this one on, that does not look like the next one."""
    if not is_integer(value) or value < number or (value - number) % steps.reach != 0:
        return False
    return not steps.is_step(value)


def closes_front(paper, line):
    """Whether a MetForced tells for each number of the front, but one at most, where its residue is closed."""
    front = front_of(paper.early, paper.late, paper.place)
    if not isinstance(paper.closed, tuple) or len(paper.closed) != len(front):
        return False
    told = [(value, number) for value, number in zip(paper.closed, front) if value is not None]
    if len(front) - len(told) > 1:
        return False
    steps = Steps(line, paper.early + paper.late)
    return all([is_closed(value, number, steps) for value, number in told])


def is_met_forced(paper, line):
    """Whether a MetForced, whose place and spread are right, shows that the line is forced."""
    if not look_table(paper.table, line):
        return False
    spread = paper.early + paper.late
    if paper.table.span > spread or (paper.table.span == spread and paper.place == 0):
        return isinstance(paper.closed, tuple) and len(paper.closed) == 0
    return paper.table.span == spread and closes_front(paper, line)


def look_met(paper, line):
    """Whether paper is a MetTwins or a MetForced that holds on the line."""
    check_line(line)
    if not isinstance(paper, MetTwins) and not isinstance(paper, MetForced):
        return False
    if not has_spread(paper, line) or not is_number(paper.place):
        return False
    return are_met(paper, line) if isinstance(paper, MetTwins) else is_met_forced(paper, line)


def part_there(one, other, unread):
    """Whether two runs have unlike numbers at a place, and equal ones at the places near ahead of it."""
    if one.letter(unread) == other.letter(unread):
        return False
    begin = max(0, unread - NEAR)
    return len(unlike_pairs(one, other, begin, unread - begin)) == 0


def look_once(paper, line):
    """Whether paper is a OnceTwins that holds on the line."""
    check_line(line)
    if not isinstance(paper, OnceTwins) or not has_spread(paper, line) or not is_number(paper.unread):
        return False
    for run in (paper.one, paper.other):
        if not is_steady(run, paper, paper.unread + 1) or run.final is None:
            return False
    return part_there(paper.one, paper.other, paper.unread) and look_alike_behind(paper, line, paper.unread + 1)
