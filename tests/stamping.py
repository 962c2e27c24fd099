"""Stamps, worked out by the words of the document."""

import itertools
import random

from jumblepost.stamps import Stamp
from jumblepost.wheels import Wheel


def due(stamp, number):
    """The due figures of a number."""
    figures = []
    below = 1
    for wheel in stamp.wheels:
        figures.append(number // below % wheel.size)
        below *= wheel.size
    return tuple(figures)


def band(stamp, index, figure):
    """The band of a wheel at a due figure."""
    if index == len(stamp.wheels) - 1:
        return 0
    above = stamp.wheels[index + 1]
    size = stamp.wheels[index].size
    if figure in list(range(size))[:above.lag]:
        return 1
    return 2 if figure in list(range(size))[size - above.lead:] else 0


def standings(stamp, number):
    """The standings of a number, ascending."""
    figures = due(stamp, number)
    shown = []
    for index, figure in enumerate(figures):
        below = band(stamp, index - 1, figures[index - 1]) if index else 0
        size = stamp.wheels[index].size
        shown.append(sorted({figure, (figure + (0, -1, 1)[below]) % size}))
    return list(itertools.product(*shown))


def print_of(stamp, standing):
    """The print of a tuple of figures."""
    return "".join(wheel.faces[figure] for wheel, figure in reversed(list(zip(stamp.wheels, standing))))


def prints(stamp, number):
    """The prints of a number, ascending."""
    return sorted(print_of(stamp, standing) for standing in standings(stamp, number))


def random_stamp(rand, most_wheels=4, most_size=4, most_signs=12):
    """A small stamp with lag, lead, both or none, and faces that share signs."""
    wheels = []
    signs = 0
    for at in range(rand.randint(1, most_wheels)):
        size, width = rand.randint(2, most_size), rand.choice((1, 1, 2))
        if signs + width > most_signs:
            break
        signs += width
        below = wheels[-1].size if wheels else 0
        lag = rand.choice((0, 0, 1, 2)) if at else 0
        lead = rand.choice((0, 0, 1, 2)) if at else 0
        lag = min(lag, below)
        lead = min(lead, below - lag)
        faces = ["".join(face) for face in itertools.product("ab1", repeat=2)] if width == 2 else list("ab10xyz")
        wheels.append(Wheel(rand.sample(faces, size), lag, lead))
    return Stamp(*wheels)


def random_stamps(many, seed, **more):
    """Small stamps."""
    rand = random.Random(seed)
    return [random_stamp(rand, **more) for _ in range(many)]
