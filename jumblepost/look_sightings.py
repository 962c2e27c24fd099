"""Looks at sightings: whether a number can show its look in the way that is told."""

from jumblepost.common import are_integers, is_integer
from jumblepost.look_views import look_sight
from jumblepost.looks import check_line, signs_seen
from jumblepost.sightings import Alike, Sighting
from jumblepost.stamps import shown_figures


def is_standing(value, stamp, number):
    """Whether any value is a standing of an integer from 0 on, however many digits it has."""
    if not isinstance(value, tuple) or len(value) != len(stamp.wheels) or not are_integers(value):
        return False
    return all([figure in shown for figure, shown in zip(value, shown_figures(stamp, number))])


def are_sights(value, line):
    """Whether any value is a tuple with a Sight that holds for each station."""
    if not isinstance(value, tuple) or len(value) != len(line.stations):
        return False
    return all([look_sight(sight, line.sheet, station) for sight, station in zip(value, line.stations)])


def look_sighting(paper, line):
    """Whether paper is a Sighting that holds on the line."""
    check_line(line)
    if not isinstance(paper, Sighting) or not is_integer(paper.number) or paper.number < 0:
        return False
    if not is_standing(paper.standing, line.stamp, paper.number) or not are_sights(paper.sights, line):
        return False
    view = tuple([cells for sight in paper.sights for cells in sight.view])
    return paper.look == signs_seen(view, line.stamp.print_of(paper.standing))


def look_alike(paper, line):
    """Whether paper is an Alike of two Sightings that hold on the line and have equal looks."""
    check_line(line)
    if not isinstance(paper, Alike):
        return False
    if not look_sighting(paper.one, line) or not look_sighting(paper.other, line):
        return False
    return paper.one.look == paper.other.look
