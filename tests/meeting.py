"""Lines met in the middle, decided by going through all pairs of runs that look alike."""

import itertools
import math

from jumblepost.sightings import Alike
from jumblepost.look_sightings import look_alike
from jumblepost.look_spans import look_table
from jumblepost.met import MetForced, MetTwins
from jumblepost.once import OnceTwins
from jumblepost.spans import SpanTable
from jumblepost.steady import SteadyRun
from tests.test_residues import KNOWN
from tests.test_steady import front


def moves(state, place, early, late):
    """The pairs (number, state behind it) that can come at a place; a state has the numbers from place - late on."""
    for number in range(max(0, place - late), place + early + 1):
        if number not in state and (place < late or place - late in (*state, number)):
            yield number, tuple(sorted(n for n in (*state, number) if n > place - late))


class Pairs:
    """All pairs of runs from some place on that look alike at each read place, as a graph that comes round.

    A node is (place, state, state, whether an unread letter came), for places up to an end from which
    on all comes again: numbers are written there as they would be one round earlier.
    """

    def __init__(self, line, early, late, begin, unread=False):
        self.line, self.early, self.late, self.unread = line, early, late, unread
        self.begin = begin
        self.round = math.lcm(early + late, line.stamp.cycle)
        self.end = max(begin, late) + self.round

    def back(self, place, one, other, used):
        if place == self.end:
            return (place - self.round, *[tuple(n - self.round for n in state) for state in (one, other)], used)
        return place, one, other, used

    def steps(self, node):
        """The pairs (node behind, whether the numbers are unlike) of a node."""
        place, one, other, used = node
        for n, after in moves(one, place, self.early, self.late):
            for m, behind in moves(other, place, self.early, self.late):
                if KNOWN.alike(self.line, n, m):
                    yield self.back(place + 1, after, behind, used), n != m
                if self.unread and not used:
                    yield self.back(place + 1, after, behind, True), n != m

    def is_forced(self, starts):
        """Whether no endless way from these nodes has unlike numbers."""
        graph = {}
        waiting = list(starts)
        while waiting:
            node = waiting.pop()
            if node not in graph:
                graph[node] = list(self.steps(node))
                waiting += [behind for behind, _ in graph[node]]
        while True:
            dead = [node for node in graph if not graph[node]]
            if not dead:
                break
            gone = set(dead)
            graph = {node: [step for step in steps if step[0] not in gone] for node, steps in graph.items() if node not in gone}
        return not any(unlike for steps in graph.values() for _, unlike in steps)


def beginnings(early, late, place):
    """All states that are possible ahead of a place."""
    return list(itertools.combinations(front(early, late, place), min(place, late)))


def is_forced_at(line, early, late, place):
    """Whether a line is forced when met at a place."""
    states = beginnings(early, late, place)
    return Pairs(line, early, late, place).is_forced([(place, one, other, False) for one in states for other in states])


def is_forced_once(line, early, late):
    """Whether runs with at most one unread letter are forced."""
    return Pairs(line, early, late, 0, True).is_forced([(0, (), (), False)])


def is_integer(value, least, most):
    return type(value) is int and least <= value <= most


def lets_spread(paper, line):
    if not is_integer(paper.early, 1, 11) or not is_integer(paper.late, 1, 12 - paper.early):
        return False
    return math.lcm(paper.early + paper.late, line.stamp.cycle) <= 400


def is_run(value, paper, place):
    return type(value) is SteadyRun and (value.early, value.late, value.place) == (paper.early, paper.late, place)


def are_right_alikes(paper, line, place):
    """Whether the alikes of a paper are those of its runs, from a place on, once round."""
    many = math.lcm(paper.early + paper.late, line.stamp.cycle)
    pairs = [(paper.one.letter(i), paper.other.letter(i)) for i in range(place, place + many) if i < 10 ** 60]
    pairs += list(zip(paper.one.stretch(place, many), paper.other.stretch(place, many)))[len(pairs):]
    pairs = [(n, m) for n, m in pairs if n != m]
    if type(paper.alikes) is not tuple or len(paper.alikes) != len(pairs):
        return False
    for alike, (n, m) in zip(paper.alikes, pairs):
        if type(alike) is not Alike or not look_alike(alike, line) or (alike.one.number, alike.other.number) != (n, m):
            return False
    return True


def is_right_closed(paper, line):
    """Whether closed has an item for each number of the front, at most one of them None."""
    told = front(paper.early, paper.late, paper.place)
    s = paper.early + paper.late
    if type(paper.closed) is not tuple or len(paper.closed) != len(told) or paper.closed.count(None) > 1:
        return False
    for n, m in zip(paper.closed, told):
        if n is not None and (type(n) is not int or n < m or n % s != m % s or KNOWN.alike(line, n, n + s)):
            return False
    return True


def is_right_met(paper, line):
    """Whether any value is a MetTwins or a MetForced that holds on a line."""
    if type(paper) not in (MetTwins, MetForced) or not lets_spread(paper, line) or not is_integer(paper.place, 0, 10 ** 60 - 1):
        return False
    if type(paper) is MetTwins:
        if not is_run(paper.one, paper, paper.place) or not is_run(paper.other, paper, paper.place):
            return False
        if paper.one.final is not None or paper.other.final is not None or paper.one.ahead == paper.other.ahead:
            return False
        return are_right_alikes(paper, line, paper.place)
    s = paper.early + paper.late
    if type(paper.table) is not SpanTable or not look_table(paper.table, line) or paper.table.span < s:
        return False
    if paper.table.span > s or paper.place == 0:
        return paper.closed == () and type(paper.closed) is tuple
    return is_right_closed(paper, line)


def is_right_once(paper, line):
    """Whether any value is a OnceTwins that holds on a line."""
    if type(paper) is not OnceTwins or not lets_spread(paper, line) or not is_integer(paper.unread, 0, 10 ** 60 - 1):
        return False
    if not is_run(paper.one, paper, paper.unread + 1) or not is_run(paper.other, paper, paper.unread + 1):
        return False
    if None in (paper.one.final, paper.other.final):
        return False
    ahead = range(max(0, paper.unread - 12), paper.unread)
    if any(paper.one.letter(i) != paper.other.letter(i) for i in ahead) or paper.one.letter(paper.unread) == paper.other.letter(paper.unread):
        return False
    return are_right_alikes(paper, line, paper.unread + 1)
