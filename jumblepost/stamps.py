"""Stamps: wheels that carry, and the numbers that they print."""

from jumblepost.common import Words, is_between, is_number
from jumblepost.errors import BadStamp, BadValue
from jumblepost.wheels import Wheel, read_wheel

MOST_WHEELS = 6
MOST_SIGNS = 12


def product_of(sizes):
    """The product of some sizes."""
    product = 1
    for size in sizes:
        product = product * size
    return product


def due_figures(wheels, number):
    """The due figures of an integer from 0 on, however many digits it has."""
    figures = []
    for wheel in wheels:
        figures.append(number % wheel.size)
        number = number // wheel.size
    return tuple(figures)


def shown_figures(stamp, number):
    """For each wheel the figures that it may show for an integer from 0 on."""
    shown = []
    band = 0
    for index, due in enumerate(due_figures(stamp.wheels, number)):
        shown.append(stamp.wheels[index].may(due, band))
        band = stamp.band(index, due)
    return shown


def check_wheels(wheels):
    """Raises the first error that is due for the wheels of a stamp."""
    if not 1 <= len(wheels) <= MOST_WHEELS:
        raise BadStamp("wheels", 0)
    for index, wheel in enumerate(wheels):
        if not isinstance(wheel, Wheel):
            raise BadStamp("wheel", index)
    if wheels[0].lag > 0 or wheels[0].lead > 0:
        raise BadStamp("lowest", 0)
    for index in range(1, len(wheels)):
        if wheels[index].lag + wheels[index].lead > wheels[index - 1].size:
            raise BadStamp("bands", index)
    if sum([wheel.signs for wheel in wheels]) > MOST_SIGNS:
        raise BadStamp("signs", 0)


class Stamp:
    """Wheels, the lowest one first, which print the numbers."""

    def __init__(self, *wheels):
        check_wheels(wheels)
        self.wheels = wheels
        self.cycle = product_of([wheel.size for wheel in wheels])
        self.signs = sum([wheel.signs for wheel in wheels])

    @staticmethod
    def digits(*sizes):
        """The stamp of wheels of digits of these sizes, the lowest first."""
        wheels = [Wheel.digits(size) for size in sizes]
        return Stamp(*wheels)

    def __len__(self):
        return len(self.wheels)

    def __iter__(self):
        return iter(self.wheels)

    def __getitem__(self, at):
        if not is_between(at, 0, len(self.wheels) - 1):
            raise BadValue("index")
        return self.wheels[at]

    def __eq__(self, other):
        return isinstance(other, Stamp) and self.wheels == other.wheels

    def __str__(self):
        return " ; ".join([str(wheel) for wheel in self.wheels])

    def figures(self, number):
        """The due figures of a number, the lowest wheel first."""
        if not is_number(number):
            raise BadValue("number")
        return due_figures(self.wheels, number)

    def standings(self, number):
        """Yields the standings of a number, ascending."""
        if not is_number(number):
            raise BadValue("number")
        rows = [()]
        for shown in shown_figures(self, number):
            rows = [row + (figure,) for row in rows for figure in shown]
        for row in rows:
            yield row

    def prints(self, number):
        """The prints of a number, ascending."""
        return tuple(sorted([self.print_of(standing) for standing in self.standings(number)]))

    def check_figures(self, figures):
        """Raises the error for any value that is no tuple of a figure for each wheel."""
        if not isinstance(figures, tuple) or len(figures) != len(self.wheels):
            raise BadValue("figures")
        for figure, wheel in zip(figures, self.wheels):
            if not is_between(figure, 0, wheel.size - 1):
                raise BadValue("figures")

    def value(self, figures):
        """The number below the cycle with these due figures."""
        self.check_figures(figures)
        number = 0
        for index in range(len(self.wheels) - 1, -1, -1):
            number = number * self.wheels[index].size + figures[index]
        return number

    def print_of(self, figures):
        """The faces of these figures side by side, the highest wheel first."""
        self.check_figures(figures)
        faces = [wheel.faces[figure] for wheel, figure in zip(self.wheels, figures)]
        return "".join(faces[::-1])

    def band(self, index, due):
        """The band of a wheel at a due figure, by the lag and the lead of the wheel above."""
        if not is_between(index, 0, len(self.wheels) - 1):
            raise BadValue("index")
        size = self.wheels[index].size
        if not is_between(due, 0, size - 1):
            raise BadValue("due")
        if index == len(self.wheels) - 1:
            return 0
        above = self.wheels[index + 1]
        if due < above.lag:
            return 1
        return 2 if due >= size - above.lead else 0

    def cell(self, sign):
        """The index of the wheel and the column in its face from which a sign comes."""
        if not is_between(sign, 0, self.signs - 1):
            raise BadValue("sign")
        index = len(self.wheels) - 1
        while sign >= self.wheels[index].signs:
            sign -= self.wheels[index].signs
            index -= 1
        return index, sign

    @classmethod
    def read(cls, text):
        """The stamp whose text this is."""
        words = Words(text)
        parts = [read_wheel(words)]
        while words.coming() is not None:
            if len(parts) == MOST_WHEELS:
                words.refuse()
            words.skip(";")
            parts.append(read_wheel(words))
        wheels = [Wheel(faces, lag, lead) for faces, lag, lead in parts]
        return cls(*wheels)
