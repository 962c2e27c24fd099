"""Looks: what the cameras tell of a letter, and which numbers can show it."""

from jumblepost.common import SIGNS, is_number, is_view
from jumblepost.errors import BadValue
from jumblepost.lines import Line
from jumblepost.printed import Fitting, figures_fit, fitting_figures
from jumblepost.stamps import shown_figures


def check_line(line):
    """Raises the error for a value that is no Line."""
    if not isinstance(line, Line):
        raise BadValue("line")


def check_numbers(line, one, other):
    """Raises the errors for values that are no line and no numbers."""
    check_line(line)
    if not is_number(one):
        raise BadValue("one")
    if not is_number(other):
        raise BadValue("other")


def check_number(line, number):
    """Raises the errors for values that are no line and no number."""
    check_line(line)
    if not is_number(number):
        raise BadValue("number")


def signs_seen(view, text):
    """The look of a print by a view whose cells it has."""
    return tuple(["".join([text[cell] for cell in cells]) for cells in view])


def is_shaped(line, look):
    """Whether any value is a tuple with a string for each pane of the line."""
    if not isinstance(look, tuple) or len(look) != len(line.views[0]):
        return False
    return all([isinstance(text, str) for text in look])


def pattern_by(view, look, signs):
    """The pattern of the prints, of so many signs, that show a look by a view; None if none can."""
    found = ["."] * signs
    for cells, text in zip(view, look):
        if len(cells) != len(text):
            return None
        for cell, sign in zip(cells, text):
            # Several stations can see one cell, and then they see the same sign.
            if sign not in SIGNS or found[cell] not in (".", sign):
                return None
            found[cell] = sign
    return "".join(found)


def patterns_of(line, look):
    """The patterns of the prints that show a look, any value, by a view of the line, each once."""
    if not is_shaped(line, look):
        return []
    found = {}
    for view in line.views:
        pattern = pattern_by(view, look, line.stamp.signs)
        if pattern is not None:
            found[pattern] = True
    return list(found)


def fittings_of(line, look):
    """For each pattern of the prints that show a look, any value, which figures fit it."""
    return [fitting_figures(line.stamp, pattern) for pattern in patterns_of(line, look)]


def is_shown(line, fittings, number):
    """Whether a number can show the look that has these fittings."""
    shown = shown_figures(line.stamp, number)
    return any([figures_fit(shown, fitting) for fitting in fittings])


def ways_shown(line, number):
    """A dict with, for each look that an integer from 0 on can show, a standing and a view that show it."""
    ways = {}
    # Equal figures are due a cycle further on, where the stamp may take no number any more.
    for standing in line.stamp.standings(number % line.stamp.cycle):
        text = line.stamp.print_of(standing)
        for view in line.views:
            look = signs_seen(view, text)
            if look not in ways:
                ways[look] = (standing, view)
    return ways


def look_of(view, text):
    """The look of a print by a view."""
    if not is_view(view):
        raise BadValue("view")
    if not isinstance(text, str) or not all([cell < len(text) for cells in view for cell in cells]):
        raise BadValue("text")
    return signs_seen(view, text)


def looks(line, number):
    """All looks that a number can show, ascending."""
    check_number(line, number)
    return tuple(sorted(ways_shown(line, number)))


def shows(line, number, look):
    """Whether a number can show a look."""
    check_number(line, number)
    return is_shown(line, fittings_of(line, look), number)


def is_look(line, look):
    """Whether some number can show a look."""
    check_line(line)
    return any([Fitting(line.stamp, pattern).total() > 0 for pattern in patterns_of(line, look)])


def shared_looks(line, one, other):
    """The looks that two integers from 0 on can both show, ascending."""
    ways = ways_shown(line, other)
    return tuple(sorted([look for look in ways_shown(line, one) if look in ways]))


def common_looks(line, one, other):
    """The looks that two numbers can both show, ascending."""
    check_numbers(line, one, other)
    return shared_looks(line, one, other)


def are_alike(line, one, other):
    """Whether there is a look that two numbers can both show."""
    return len(common_looks(line, one, other)) > 0


def next_shown(line, look, number):
    """The least integer from a number on that can show a look, None if no number can."""
    check_number(line, number)
    shown = [Fitting(line.stamp, pattern).first_from(number) for pattern in patterns_of(line, look)]
    return min([integer for integer in shown if integer is not None], default=None)
