"""Patterns: which numbers fit, without going through the numbers.

A wheel hangs on those below it by the band of the next one alone. So it is enough to count, for
each wheel and each due figure, the ways in which the wheels below can be due.
"""

from jumblepost.common import are_signs, is_between, is_number
from jumblepost.errors import BadValue
from jumblepost.stamps import Stamp, due_figures


def check_pattern(stamp, pattern):
    """Raises the errors for values that are no stamp and no pattern of it."""
    if not isinstance(stamp, Stamp):
        raise BadValue("stamp")
    if not isinstance(pattern, str) or len(pattern) != stamp.signs:
        raise BadValue("pattern")
    if not are_signs(pattern.replace(".", "")):
        raise BadValue("pattern")


def fits_face(face, part):
    """Whether a face has the signs that this part of a pattern asks for."""
    return all([want in (".", sign) for sign, want in zip(face, part)])


def fitting_figures(stamp, pattern):
    """For each wheel, the lowest first, a list that tells for each figure whether its face fits."""
    fitting = []
    end = len(pattern)
    for wheel in stamp.wheels:
        part = pattern[end - wheel.signs:end]
        fitting.append([fits_face(face, part) for face in wheel.faces])
        end -= wheel.signs
    return fitting


def lets_figure(wheel, fitting, due, band):
    """Whether a wheel may show a face that fits."""
    return any([fitting[figure] for figure in wheel.may(due, band)])


def figures_fit(shown, fitting):
    """Whether each wheel may show, of these figures for each wheel, one that fits."""
    for figures, fits in zip(shown, fitting):
        if not any([fits[figure] for figure in figures]):
            return False
    return True


def wheel_lets(wheel, fitting):
    """For each due figure of a wheel and each band below it, whether a face that fits may be shown."""
    return [[lets_figure(wheel, fitting, due, band) for band in range(3)] for due in range(wheel.size)]


def wheel_bands(stamp, index):
    """For each due figure of a wheel its band."""
    return [stamp.band(index, due) for due in range(stamp.wheels[index].size)]


class Fitting:
    """The numbers below the cycle of a stamp that fit a pattern, counted."""

    def __init__(self, stamp, pattern):
        fitting = fitting_figures(stamp, pattern)
        self.stamp = stamp
        self.lets = [wheel_lets(wheel, figures) for wheel, figures in zip(stamp.wheels, fitting)]
        self.bands = [wheel_bands(stamp, index) for index in range(len(stamp.wheels))]
        # For each wheel and due figure: in how many ways the wheels up to it fit.
        self.counts = [[1 if lets[0] else 0 for lets in self.lets[0]]]
        for index in range(1, len(stamp.wheels)):
            size = stamp.wheels[index].size
            self.counts.append([sum(self.counts_under(index - 1, due)) for due in range(size)])

    def counts_under(self, index, above):
        """For each due figure of a wheel its count, 0 where the wheel above does not fit with it.

        above is the due figure of the wheel above, None if there is no such wheel.
        """
        counts = self.counts[index]
        if above is None:
            return list(counts)
        fits = self.lets[index + 1][above]
        return [count if fits[band] else 0 for count, band in zip(counts, self.bands[index])]

    def total(self):
        """How many numbers below the cycle fit."""
        return sum(self.counts[-1])

    def number_at(self, place):
        """The number that fits with just so many below it."""
        figures = []
        above = None
        for index in range(len(self.counts) - 1, -1, -1):
            counts = self.counts_under(index, above)
            above = 0
            while place >= counts[above]:
                place -= counts[above]
                above += 1
            figures.append(above)
        return self.stamp.value(tuple(figures[::-1]))

    def many_below(self, number):
        """How many numbers that fit are less than this one, which is below the cycle."""
        figures = due_figures(self.stamp.wheels, number)
        many = 0
        above = None
        for index in range(len(self.counts) - 1, -1, -1):
            counts = self.counts_under(index, above)
            above = figures[index]
            many += sum(counts[:above])
            if counts[above] == 0:
                return many
        return many

    def first_from(self, number):
        """The least number from this one on that fits, None if none fits."""
        if self.total() == 0:
            return None
        begin = number - number % self.stamp.cycle
        place = self.many_below(number - begin)
        if place < self.total():
            return begin + self.number_at(place)
        return begin + self.stamp.cycle + self.number_at(0)


def count_printed(stamp, pattern):
    """How many numbers below the cycle fit."""
    check_pattern(stamp, pattern)
    return Fitting(stamp, pattern).total()


def printed(stamp, pattern, index):
    """The number below the cycle that fits and has just so many of them below it."""
    check_pattern(stamp, pattern)
    fitting = Fitting(stamp, pattern)
    if not is_between(index, 0, fitting.total() - 1):
        raise BadValue("index")
    return fitting.number_at(index)


def next_printed(stamp, pattern, number):
    """The least number from this one on that fits, None if none fits."""
    check_pattern(stamp, pattern)
    if not is_number(number):
        raise BadValue("number")
    return Fitting(stamp, pattern).first_from(number)
