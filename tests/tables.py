"""Span tables and distances, worked out by the words of the document."""

import itertools

from tests import small_lines, stamping


def shape(view):
    return [len(cells) for cells in view]


def links(view, other):
    """The pairs of cells at one place, pane by pane."""
    return [(view[pane][at], other[pane][at]) for pane in range(len(view)) for at in range(len(view[pane]))]


def home(stamp, cell):
    """The wheel and the column of a cell, going through a print from the left."""
    places = []
    for index in reversed(range(len(stamp.wheels))):
        places += [(index, column) for column in range(len(stamp.wheels[index].faces[0]))]
    return places[cell]


def shown(stamp, index, due, band):
    size = stamp.wheels[index].size
    return sorted({due, (due + (0, -1, 1)[band]) % size})


class Walk:
    """Two views of one shape, and the possible steps from states."""

    def __init__(self, stamp, view, other):
        self.stamp = stamp
        self.pairs = [(home(stamp, c), home(stamp, e)) for c, e in links(view, other)]

    def waiting(self, index):
        """The links that wait behind a wheel, in their order."""
        return [k for k, ((w, _), (v, _)) in enumerate(self.pairs) if min(w, v) <= index < max(w, v)]

    def steps(self, index, state):
        """The pairs (state behind a wheel, step) for each possible step from a state."""
        band, far_band, borrow, moved, waiting = state
        wheel = self.stamp.wheels[index]
        known = dict(zip(self.waiting(index - 1), waiting))
        here = [k for k, ((w, _), (v, _)) in enumerate(self.pairs) if max(w, v) == index]
        behind = self.waiting(index)
        for x, y in itertools.product(range(wheel.size), repeat=2):
            step = (y - x - borrow) % wheel.size
            told = (stamping.band(self.stamp, index, x), stamping.band(self.stamp, index, y), int(y - x - borrow < 0), int(moved or step > 0))
            for f, g in itertools.product(shown(self.stamp, index, x, band), shown(self.stamp, index, y, far_band)):
                signs = {}
                for k, ((w, c), (v, e)) in enumerate(self.pairs):
                    signs[k] = (wheel.faces[f][c] if w == index else known.get(k), wheel.faces[g][e] if v == index else known.get(k))
                if all(signs[k][0] == signs[k][1] for k in here):
                    yield (*told, "".join(next(sign for sign in signs[k] if sign) for k in behind)), step


def levels(stamp, view, other):
    """A level for each wheel: a dict of the least values of all states."""
    walk = Walk(stamp, view, other)
    found = []
    level = {(0, 0, 0, 0, ""): 0}
    weight = 1
    for index, wheel in enumerate(stamp.wheels):
        fresh = {}
        for state, value in level.items():
            for behind, step in walk.steps(index, state):
                fresh[behind] = min(fresh.get(behind, value + step * weight), value + step * weight)
        level = fresh
        weight *= wheel.size
        found.append(level)
    return found


def is_integer(value, least, most=10 ** 3000):
    return type(value) is int and least <= value <= most


def is_level(level, many):
    """Whether any value is a tuple of pairs (state, value), the states with so many waiting signs."""
    if type(level) is not tuple:
        return False
    for pair in level:
        if type(pair) is not tuple or len(pair) != 2 or not is_integer(pair[1], 0):
            return False
        if type(pair[0]) is not tuple or len(pair[0]) != 5 or type(pair[0][4]) is not str or len(pair[0][4]) != many:
            return False
        if not all(is_integer(part, 0, most) for part, most in zip(pair[0], (2, 2, 1, 1))):
            return False
    return [pair[0] for pair in level] == sorted({pair[0] for pair in level})


def is_right_entry(entry, line, view, other, least):
    """Whether any value is the entry of two views that shows that no distance below least is alike."""
    if type(entry) is not tuple or len(entry) != 3 or repr(entry[:2]) != repr((view, other)):
        return False
    told = entry[2]
    walk = Walk(line.stamp, view, other)
    if type(told) is not tuple or len(told) != len(line.stamp.wheels):
        return False
    if not all(is_level(level, len(walk.waiting(index))) for index, level in enumerate(told)):
        return False
    ahead = {(0, 0, 0, 0, ""): 0}
    weight = 1
    for index, level in enumerate(told):
        known = dict(level)
        for state, value in ahead.items():
            for behind, step in walk.steps(index, state):
                if behind not in known or known[behind] > value + step * weight:
                    return False
        ahead = known
        weight *= line.stamp.wheels[index].size
    return all(value >= least for state, value in ahead.items() if state[3] == 1)


def is_right(paper, line):
    """Whether a SpanTable of any values shows what it is to show."""
    pairs = [(view, other) for view in line.views for other in line.views if shape(view) == shape(other)]
    if not is_integer(paper.span, 1, line.stamp.cycle) or type(paper.tables) is not tuple or len(paper.tables) != len(pairs):
        return False
    return all(is_right_entry(entry, line, *pair, paper.span) for entry, pair in zip(paper.tables, pairs))


def tables(line):
    """The entries of the SpanTable of a line."""
    return tuple(
        (view, other, tuple(tuple(sorted(level.items())) for level in levels(line.stamp, view, other)))
        for view in line.views for other in line.views if shape(view) == shape(other))


def many_states(entries):
    return sum(len(level) for _, _, told in entries for level in told)


def alike_residues(line):
    """Which distances from 1 to the cycle are alike, by all looks of all numbers of a cycle."""
    cycle = line.stamp.cycle
    told = [set(small_lines.all_looks(line, number)) for number in range(cycle)]
    return [d for d in range(1, cycle + 1) if any(told[n] & told[(n + d) % cycle] for n in range(cycle))]
