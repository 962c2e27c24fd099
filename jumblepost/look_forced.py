"""Looks at what decides whether numbers are forced: Twins and Forced."""

from jumblepost.common import is_integer
from jumblepost.forced import Forced
from jumblepost.jumbles import Jumble
from jumblepost.look_sightings import look_alike
from jumblepost.look_spans import look_table
from jumblepost.looks import check_line
from jumblepost.runs import Run, are_unread, fits
from jumblepost.twins import Twins, unlike_places


def are_one_behind(one, other):
    """Whether two values are Runs that differ in their heads alone."""
    if not isinstance(one, Run) or not isinstance(other, Run):
        return False
    if one.begin != other.begin or len(one.numbers) != len(other.numbers):
        return False
    return sorted(set(one.numbers + one.lost)) == sorted(set(other.numbers + other.lost))


def is_alike_of(paper, line, one, other):
    """Whether any value is an Alike of these numbers that holds on the line."""
    return look_alike(paper, line) and paper.one.number == one and paper.other.number == other


def are_alikes(values, line, pairs):
    """Whether any value is a tuple with an Alike for each of these pairs of numbers."""
    if not isinstance(values, tuple) or len(values) != len(pairs):
        return False
    return all([is_alike_of(paper, line, one, other) for paper, (one, other) in zip(values, pairs)])


def look_twins(paper, line):
    """Whether paper is a Twins of runs that look alike on the line and have unlike numbers."""
    check_line(line)
    if not isinstance(paper, Twins) or not isinstance(paper.jumble, Jumble):
        return False
    if not are_one_behind(paper.one, paper.other):
        return False
    if not isinstance(paper.unread, tuple) or not are_unread(paper.unread):
        return False
    if not fits(paper.one, paper.jumble, paper.unread) or not fits(paper.other, paper.jumble, paper.unread):
        return False
    places = unlike_places(paper.one, paper.other)
    if len(places) == 0 or not is_integer(paper.place) or paper.place != places[0]:
        return False
    begin = paper.one.begin
    pairs = [
        (paper.one.numbers[place - begin], paper.other.numbers[place - begin])
        for place in places if place not in paper.unread
    ]
    return are_alikes(paper.alikes, line, pairs)


def look_forced(paper, line):
    """Whether paper is a Forced with a table whose span is at least the need of its jumble."""
    check_line(line)
    if not isinstance(paper, Forced) or not isinstance(paper.jumble, Jumble):
        return False
    if paper.jumble.need is None or not look_table(paper.table, line):
        return False
    return paper.table.span >= paper.jumble.need
