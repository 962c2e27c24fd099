"""Links: where two views show signs at one place, and the steps that this lets two numbers take."""

from jumblepost.common import is_view
from jumblepost.errors import BadValue

START = (0, 0, 0, 0, "")


def shape_of(view):
    """How many cells each pane of a view has."""
    return tuple([len(cells) for cells in view])


def links(view, other):
    """The pairs of cells that stand at one place, None if the views are not of one shape."""
    if not is_view(view):
        raise BadValue("view")
    if not is_view(other):
        raise BadValue("other")
    if shape_of(view) != shape_of(other):
        return None
    return tuple([pair for cells, far in zip(view, other) for pair in zip(cells, far)])


def pairs_of_shape(views):
    """The pairs of views of one shape, in the order of the views."""
    return [(view, other) for view in views for other in views if shape_of(view) == shape_of(other)]


def showable(stamp, index, band):
    """The ways in which a wheel is due in a band: due figure, face that is shown, its own band."""
    wheel = stamp.wheels[index]
    return [
        (due, wheel.faces[figure], stamp.band(index, due))
        for due in range(wheel.size) for figure in wheel.may(due, band)
    ]


def end_here(link, index):
    """The side of a link, 0 or 1, whose cell belongs to a wheel, and the column there."""
    side = 0 if link[0][0] == index else 1
    return side, link[side][1]


class WheelLinks:
    """What the links of two views ask of one wheel.

    A link is a pair of ends (wheel, column). From its lower wheel on it waits, with the sign that
    is shown there, until its higher wheel is come to.
    """

    def __init__(self, ends, index):
        ahead = [at for at, link in enumerate(ends) if min(link)[0] < index <= max(link)[0]]
        behind = [at for at, link in enumerate(ends) if min(link)[0] <= index < max(link)[0]]
        closed = [at for at in ahead if at not in behind]
        opened = [at for at in behind if at not in ahead]
        self.both = [(one[1], far[1]) for one, far in ends if one[0] == index and far[0] == index]
        self.closing = [end_here(ends[at], index) for at in closed]
        self.opening = [end_here(ends[at], index) for at in opened]
        # Places among the signs that wait ahead of the wheel, and those that are opened behind them.
        self.closed = [ahead.index(at) for at in closed]
        self.kept = [(ahead + opened).index(at) for at in behind]

    def agree_on(self, face, far):
        """Whether the links with both ends here have equal signs on these two faces."""
        for column, far_column in self.both:
            if face[column] != far[far_column]:
                return False
        return True


def signs_at(faces, places):
    """The signs of two faces at places, each told by side and column."""
    return "".join([faces[side][column] for side, column in places])


class Pairing:
    """Two views of one shape, and the possible steps, wheel by wheel, of two numbers seen by them."""

    def __init__(self, stamp, view, other):
        ends = [(stamp.cell(cell), stamp.cell(far)) for cell, far in links(view, other)]
        self.stamp = stamp
        self.parts = [WheelLinks(ends, index) for index in range(len(stamp.wheels))]
        self.made_moves = {}

    def many_waiting(self, index):
        """How many links wait behind a wheel."""
        return len(self.parts[index].kept)

    def moves(self, index, band, far_band):
        """What two numbers in these bands can do at a wheel, by the signs that must wait for it.

        A move is (y - x, band of n, band of m, signs that wait from here on, x): of those that
        differ in x alone one is enough.
        """
        key = (index, band, far_band)
        if key in self.made_moves:
            return self.made_moves[key]
        part = self.parts[index]
        found = {}
        far_ways = showable(self.stamp, index, far_band)
        for due, face, behind in showable(self.stamp, index, band):
            for far_due, far_face, far_behind in far_ways:
                if part.agree_on(face, far_face):
                    faces = (face, far_face)
                    dues = found.setdefault(signs_at(faces, part.closing), {})
                    dues.setdefault((far_due - due, behind, far_behind, signs_at(faces, part.opening)), due)
        self.made_moves[key] = {asked: [(*row, told[row]) for row in told] for asked, told in found.items()}
        return self.made_moves[key]

    def steps(self, index, state):
        """For each possible step at a wheel: the state behind it, the step, and a due figure of n."""
        band, far_band, borrow, ahead, waiting = state
        part = self.parts[index]
        size = self.stamp.wheels[index].size
        asked = "".join([waiting[at] for at in part.closed])
        found = []
        for apart, behind, far_behind, opened, due in self.moves(index, band, far_band).get(asked, ()):
            signs = waiting + opened
            left = apart - borrow
            step = left % size
            moved = 1 if ahead == 1 or step > 0 else 0
            waits = "".join([signs[at] for at in part.kept])
            found.append(((behind, far_behind, 1 if left < 0 else 0, moved, waits), step, due))
        return found
